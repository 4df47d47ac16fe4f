import PyProof.Rows.All
import Wide.All
import OpenK.AllK
import Wide.FinOn
import HandS.ForMost
import HandS.IsInst
import HandS.TupAny
import HandS.Flow
import HandS.Evl
import HandS.TupMul
import HandS.SortKw
import HandS.WideBits
import HandS.Gcd
import HandS.Rev
import HandS.Style
import KE.DataMinMax
import HandS.Wide
import PyProof.NoPylong
import HandS.WideMore
import KE.GoesMore
import PyProof.Draws
import HandS.RevRange
import HandS.List
import PySem.Challenge.RW_twoletters_k27_discriminants_of_degrees
set_option Elab.async false
set_option linter.all false
set_option maxRecDepth 100000
set_option maxHeartbeats 4000000
/-! a def's promise where no container is being written out (for repr) -/
namespace Tw
open PySem PySem.Spec PyProof.Rows L2

/-- nothing is being written out around here -/
abbrev Qt (A : Around) : Prop := A.guards = some []

structure FnG (P : Program) (w : World) (K : PySem.W.Frag) (mg : Str → Option Value) (base : Heap) (k : Nat) (f : Addr)
    (fd : FuncData) (ps : List Str) (sp : Sp) : Prop where
  many : ∀ vs H Q E, sp vs H Q E → vs.length = ps.length
  goes : ∀ (A : Around) (out : List Env) (s : Shared) (H : Hp) (g : Args) (us : List Value) (vs : List V) (Q : VK) (E : XK),
    Qt A → Room k A → Env0 P w K mg base A out s H → BindsTo s fd g (ps.zip us) → Vals vs us → sp vs H Q E →
    codeAny (model P w) A (.call (.ref f) g) (CR CX0 out P w H s Q E) s

section
variable {P : Program} {w : World} {K : PySem.W.Frag} {mg : Str → Option Value} {base : Heap} {k j : Nat} {f : Addr}
  {fd : FuncData} {ps : List Str} {sp : Sp}
theorem FnG.of (F : FnOk P w K mg base CX0 k f fd ps sp) : FnG P w K mg base k f fd ps sp :=
  ⟨F.len, fun A out s H g us vs Q E _ hr => F.run A out s H g us vs Q E hr⟩
theorem FnG.up (F : FnG P w K mg base j f fd ps sp) (h : j ≤ k) : FnG P w K mg base k f fd ps sp :=
  ⟨F.many, fun A out s H g us vs Q E hq hr => F.goes A out s H g us vs Q E hq (hr.mono h)⟩
theorem FnG.imp {sp' : Sp} (F : FnG P w K mg base k f fd ps sp) (h : ∀ vs H Q E, sp' vs H Q E → sp vs H Q E) :
    FnG P w K mg base k f fd ps sp' :=
  ⟨fun vs H Q E q => F.many vs H Q E (h _ _ _ _ q),
   fun A out s H g us vs Q E hq hr he hb hv hs => F.goes A out s H g us vs Q E hq hr he hb hv (h _ _ _ _ hs)⟩

/-- a def by its body, the place where it runs being quiet -/
theorem Fun.okG {x qual : Str} {st : Stmt} {N : List Str} (F : Fun K x qual st f fd) (S : FnScope N ps (defScope st))
    (many : ∀ vs H Q E, sp vs H Q E → vs.length = ps.length)
    (hbody : ∀ (cdv : Value) (A : Around) (out : List Env) (s : Shared) (H : Hp) (vs : List V) (Q : VK) (E : XK),
      Qt (A.deeper (envOfC qual (defScope st) s.heap.objs.size f cdv)) →
      Room k (A.deeper (envOfC qual (defScope st) s.heap.objs.size f cdv)) → sp vs H Q E →
      ∃ t, PSs (cxOf CX0 P w K mg base N qual (defScope st) f cdv A out s H E).nox (defBody st) t ∧
        t { nx := fun _ H' => Q .non H', rt := Q } (start N vs) H) : FnG P w K mg base (k + 1) f fd ps sp := by
  obtain ⟨oc, od, kV, doc, pm, an, cdv, ct, osl, rfl, lk, hcd⟩ := F.ex
  refine ⟨many, fun A out s H g us vs Q E hq hr e0 hb r hsp => ?_⟩
  have hlen : vs.length = ps.length := many _ _ _ _ hsp
  have inS : ∀ b o, base.get? b = some o → s.heap.get? b = some o := fun b o e => (e0.bs b o e).1
  have kx : K.In s.heap := e0.mod.kin.keeps inS
  have nolim : s.heap.NoLimit := e0.mod.nolimit.keeps inS
  have kinds : ∀ y ∈ ps.zip us, (defScope st).names.lookup y.1 = some .local ∨
      ((defScope st).names.lookup y.1 = some .cell ∧
        ((cellsFrom (s.heap.objs.size + 1) (defScope st).names []).lookup y.1).isSome = true) := by
    rintro ⟨n, v⟩ hy
    cases S.par n (List.of_mem_zip hy).1 with
    | inl q => exact Or.inl q
    | inr q => exact Or.inr ⟨q, PySem.W.cellsFrom_some _ _ _ (Or.inl q)⟩
  have rec1 := PySem.W.codeRec_of kx hcd
  refine codeAny_call_function hr.depth (kx _ _ lk) rfl S.co S.gen rfl rec1 (hb _ _ _ _ ?_)
  refine wpAny_newFunctionEnv_cells S.kind kinds fun env he s1 x => ?_
  subst he
  refine ⟨nolim.keeps x.toInCall.keep, codeAny_func ?_⟩
  have hq' : Qt (A.deeper (envOfC qual (defScope st) s.heap.objs.size f cdv)) := hq
  obtain ⟨t, ht, hw⟩ := hbody cdv A out s H vs Q E hq' (hr.deeper _) hsp
  have I := inv_start (CX := CX0) (cd := cdv) (E := E) (f := f) (qual := qual) S hr.hd e0 hlen r x
  refine wpAny_mono (ht.nox.run [] s1 (start N vs) H _ I hw) (fun fl s' hs => ?_) fun e s' hs => hs
  cases fl with
  | ret u => obtain ⟨v, σ', H', J, rv, q⟩ := hs; exact ⟨v, H', J.os, J.bare, J.base, J.hok, rv, q⟩
  | next => obtain ⟨σ', H', J, q⟩ := hs; exact ⟨V.non, H', J.os, J.bare, J.base, J.hok, rfl, q⟩
  | brk => obtain ⟨_, _, _, q⟩ := hs; exact q.elim
  | cont => obtain ⟨_, _, _, q⟩ := hs; exact q.elim
end

section
variable {X : Cx} {k : Nat} {f : Addr} {fd : FuncData} {ps : List Str} {sp : Sp} {x : Str} {p pos : Pos} {e : Expr}
  {es : List Expr} {t : TA}
/-- f(e, ..), f a def that wants quiet -/
theorem pe_callG (F : FnG X.prog X.w X.K X.mg X.base k f fd ps sp) (hq : Qt X.A) (hr : Room k X.A) (hg : Gl X x)
    (hm : X.mg x = some (.ref f)) (hk : PySem.W.keepIn X.K (.ref f) = true) (hb : Binds X.K fd ps [])
    (ha : PA X (e :: es) t) (hdb : (x == ("__debug__" : Str)) = false := by decide)
    (he : starEach (e :: es) X.env = (false, eval e X.env) :: starEach es X.env := by rfl)
    (hpl : (backTo pos (starEach es X.env)).any (·.1) = false := by rfl) :
    PE X (.Call (.Name x p) (e :: es) [] pos) (tCall sp [] E0 t) := by
  refine ⟨fun pins s σ H Q I h => wpAny_Call_Name_kw (ld_glob I hg hm ?_ hdb)⟩
  refine PySem.W.callWith_K (h₀ := X.base) I.ok.mod.kin hk ?_ he hpl
  refine thn (ha.run pos pins s σ H _ I h) ?_
  rintro us s1 ⟨vs, H1, I1, r, q⟩
  refine ⟨I1.kIn, wpAny_call ?_⟩
  have q' : sp vs H1 Q E0 := by simpa using q
  have hl : us.length = ps.length := by rw [← Vals.length r]; exact F.many _ _ _ _ q'
  have b := hb s1 us I1.kIn (by simpa using hl)
  rw [List.append_nil] at b
  refine codeAny_mono (F.goes X.A X.stack s1 H1 ⟨us, []⟩ us vs Q E0 hq hr I1.env0 b r q') fun r s' hh => ?_
  cases r with
  | error z => exact False.elim hh
  | ok fl =>
    cases fl with
    | ret u => exact I1.after hh
    | next => exact False.elim hh
    | brk => exact False.elim hh
    | cont => exact False.elim hh
end
end Tw

set_option Elab.async false
set_option linter.all false
set_option maxRecDepth 100000
set_option maxHeartbeats 4000000
/-! data: what a value is, over the heap; the well at a -/
namespace Tw
open PySem PySem.Spec PyProof.Rows L2

/-- all that was known is known, but for what stands at a -/
def Kp (a : Addr) (H H' : Hp) : Prop := ∀ b o, b ≠ a → H b = some o → H' b = some o
/-- the well: a list of three ints -/
def We (a : Addr) (H : Hp) : Prop := ∃ x y z : Int, H a = some (.lst [.int x, .int y, .int z])
theorem Kp.refl (a : Addr) (H : Hp) : Kp a H H := fun _ _ _ h => h
theorem Kp.trans {a : Addr} {H H1 H2 : Hp} (x : Kp a H H1) (y : Kp a H1 H2) : Kp a H H2 := fun b o n h => y b o n (x b o n h)
theorem Kp.of {a : Addr} {H H' : Hp} (x : Same H H') : Kp a H H' := fun b o _ h => x b o h
theorem We.to {a : Addr} {H H' : Hp} (x : Same H H') (w : We a H) : We a H' := by
  obtain ⟨i, j, k, h⟩ := w
  exact ⟨i, j, k, x _ _ h⟩
theorem We.ne {a p : Addr} {H : Hp} (w : We a H) (h : H p = none) : p ≠ a := by
  obtain ⟨i, j, k, e⟩ := w
  exact fun z => by rw [z, e] at h; cases h
theorem We.some {a : Addr} {H : Hp} (w : We a H) : H a ≠ none := by
  obtain ⟨i, j, k, e⟩ := w
  rw [e]
  exact fun z => by cases z
theorem same_new {H : Hp} {p : Addr} {o : HO} (h : H p = none) : Same H (upd H p o) := fun b u e => by
  rw [upd_ne (ne_of_none e h)]; exact e
theorem kp_new {a : Addr} {H : Hp} {p : Addr} {o : HO} (h : H p = none) : Kp a H (upd H p o) := Kp.of (same_new h)
theorem we_new {a : Addr} {H : Hp} {p : Addr} {o : HO} (w : We a H) (h : H p = none) : We a (upd H p o) := w.to (same_new h)
theorem sz {n : Nat} (h : n ≤ 100000) : n ≤ sizeLine := Nat.le_trans h (by decide)

mutual
/-- the value is the datum; nothing of it is the well -/
inductive Da (a : Addr) (H : Hp) : V → PyData → Prop
  | non : Da a H .non .none
  | bl (b : Bool) : Da a H (.bl b) (.bool b)
  | int (i : Int) : Da a H (.int i) (.int i)
  | str (x : Str) : Da a H (.str x) (.str x)
  | lst {p : Addr} {xs : List V} {ds : List PyData} : p ≠ a → H p = some (.lst xs) → DaAll a H xs ds → Da a H (.ref p) (.list ds)
  | tup {p : Addr} {xs : List V} {ds : List PyData} : p ≠ a → H p = some (.tup xs) → DaAll a H xs ds → Da a H (.ref p) (.tuple ds)
  | dct {p : Addr} : p ≠ a → H p = some (.dK []) → Da a H (.ref p) (.dict [])
inductive DaAll (a : Addr) (H : Hp) : List V → List PyData → Prop
  | nil : DaAll a H [] []
  | cons {v : V} {vs : List V} {d : PyData} {ds : List PyData} : Da a H v d → DaAll a H vs ds → DaAll a H (v :: vs) (d :: ds)
end
section
variable {a : Addr} {H H' : Hp}
mutual
theorem Da.kp (k : Kp a H H') : ∀ {v : V} {d : PyData}, Da a H v d → Da a H' v d
  | _, _, .non => .non
  | _, _, .bl b => .bl b
  | _, _, .int i => .int i
  | _, _, .str x => .str x
  | _, _, .lst n h t => .lst n (k _ _ n h) (DaAll.kp k t)
  | _, _, .tup n h t => .tup n (k _ _ n h) (DaAll.kp k t)
  | _, _, .dct n h => .dct n (k _ _ n h)
theorem DaAll.kp (k : Kp a H H') : ∀ {vs : List V} {ds : List PyData}, DaAll a H vs ds → DaAll a H' vs ds
  | _, _, .nil => .nil
  | _, _, .cons h t => .cons (Da.kp k h) (DaAll.kp k t)
end
theorem Da.same (s : Same H H') {v : V} {d : PyData} (h : Da a H v d) : Da a H' v d := h.kp (Kp.of s)
theorem DaAll.same (s : Same H H') {v : List V} {d : List PyData} (h : DaAll a H v d) : DaAll a H' v d := h.kp (Kp.of s)
theorem DaAll.len : ∀ {vs : List V} {ds : List PyData}, DaAll a H vs ds → vs.length = ds.length
  | _, _, .nil => rfl
  | _, _, .cons _ t => congrArg Nat.succ t.len
theorem DaAll.get : ∀ {vs : List V} {ds : List PyData} {i : Nat} {v : V}, DaAll a H vs ds → vs[i]? = some v → ∃ d, ds[i]? = some d ∧ Da a H v d
  | _, _, _, _, .nil, h => by simp at h
  | _, _, 0, _, .cons h _, e => by simp at e; subst e; exact ⟨_, rfl, h⟩
  | _, _, i + 1, _, .cons _ t, e => by
    obtain ⟨d, h1, h2⟩ := t.get (i := i) (by simpa using e)
    exact ⟨d, by simpa using h1, h2⟩
theorem DaAll.append : ∀ {vs ws : List V} {ds es : List PyData}, DaAll a H vs ds → DaAll a H ws es → DaAll a H (vs ++ ws) (ds ++ es)
  | _, _, _, _, .nil, t => t
  | _, _, _, _, .cons h t, u => .cons h (t.append u)
theorem DaAll.drop : ∀ {vs : List V} {ds : List PyData} (n : Nat), DaAll a H vs ds → DaAll a H (vs.drop n) (ds.drop n)
  | _, _, 0, h => h
  | _, _, _ + 1, .nil => .nil
  | _, _, n + 1, .cons _ t => t.drop n
theorem DaAll.take : ∀ {vs : List V} {ds : List PyData} (n : Nat), DaAll a H vs ds → DaAll a H (vs.take n) (ds.take n)
  | _, _, 0, _ => .nil
  | _, _, _ + 1, .nil => .nil
  | _, _, n + 1, .cons h t => .cons h (t.take n)
theorem DaAll.rev : ∀ {vs : List V} {ds : List PyData}, DaAll a H vs ds → DaAll a H vs.reverse ds.reverse
  | _, _, .nil => .nil
  | _, _, .cons h t => by
    rw [List.reverse_cons, List.reverse_cons]
    exact t.rev.append (.cons h .nil)
/-- a slice of the values, of the data -/
def cutD (ds : List PyData) (lo hi : Option Int) : List PyData := (ds.drop (HT.sIx ds.length 0 lo)).take (HT.sIx ds.length ds.length hi - HT.sIx ds.length 0 lo)
theorem DaAll.cut {vs : List V} {ds : List PyData} (lo hi : Option Int) (h : DaAll a H vs ds) : DaAll a H (cutV vs lo hi) (cutD ds lo hi) := by
  unfold cutV cutD
  rw [h.len]
  exact (h.drop _).take _

mutual
theorem Da.dp {K : PySem.W.Frag} : ∀ {v : V} {d : PyData}, Da a H v d → d.canLay0 = true → Dp K H v d
  | _, _, .non, _ => .non
  | _, _, .bl b, _ => .bl b
  | _, _, .int i, _ => .int i
  | _, _, .str x, _ => .str x
  | _, _, .lst n h t, c => .lst (SqL.of h) (DaAll.dp t (by simpa [PyData.canLay0] using c))
  | _, _, .tup n h t, c => .tup (SqT.of h) (DaAll.dp t (by simpa [PyData.canLay0] using c))
  | _, _, .dct n h, c => by simp [PyData.canLay0] at c
theorem DaAll.dp {K : PySem.W.Frag} : ∀ {vs : List V} {ds : List PyData}, DaAll a H vs ds → PyData.canLayAll0 ds = true → DpAll K H vs ds
  | _, _, .nil, _ => .nil
  | _, _, .cons (d := d) (ds := ds) h t, c => by
    have c' : d.canLay0 = true ∧ PyData.canLayAll0 ds = true := by simpa [PyData.canLayAll0] using c
    exact .cons (Da.dp h c'.1) (DaAll.dp t c'.2)
end
end

/-! ### written data -/
mutual
def litOf : Expr → Option PyData
  | .Constant c _ _ => match c with
    | .none => some .none
    | .bool b => some (.bool b)
    | .int i => some (.int i)
    | .str x => some (.str x)
    | _ => none
  | .UnaryOp .USub (.Constant (.int i) _ _) _ => some (.int (-i))
  | .BinOp (.Constant (.int i) _ _) .Pow (.Constant (.int j) _ _) _ => if 0 ≤ j ∧ j ≤ 1000 ∧ i.natAbs < 1000 then some (.int (i ^ j.toNat)) else none
  | .Tuple es _ _ => match litsOf es with
    | some ds => if ds.length ≤ 1000 then some (.tuple ds) else none
    | none => none
  | .List es _ => match litsOf es with
    | some ds => if ds.length ≤ 1000 then some (.list ds) else none
    | none => none
  | .Dict [] [] _ => some (.dict [])
  | _ => none
def litsOf : List Expr → Option (List PyData)
  | [] => some []
  | e :: es => match litOf e, litsOf es with
    | some d, some ds => some (d :: ds)
    | _, _ => none
end
theorem _root_.L2.PE.weak {X : Cx} {e : Expr} {t t' : TE} (h : PE X e t) (k : ∀ σ H Q, t' σ H Q → t σ H Q) : PE X e t' := ⟨fun p s σ H Q I q => h.run p s σ H Q I (k σ H Q q)⟩
theorem _root_.L2.PA.weak {X : Cx} {e : List Expr} {t t' : TA} (h : PA X e t) (k : ∀ σ H Q, t' σ H Q → t σ H Q) : PA X e t' := ⟨fun o p s σ H Q I q => h.run o p s σ H Q I (k σ H Q q)⟩
/-- a new datum; a is any known place -/
def tLit (d : PyData) : TE := fun _ H Q => ∃ a, H a ≠ none ∧ ∀ v H', Same H H' → Da a H' v d → Q v H'
def tLits (ds : List PyData) : TA := fun _ H Q => ∃ a, H a ≠ none ∧ ∀ vs H', Same H H' → DaAll a H' vs ds → Q vs H'
theorem same_some {H H' : Hp} {a : Addr} (s : Same H H') (h : H a ≠ none) : H' a ≠ none := by
  cases e : H a with
  | none => exact absurd e h
  | some o => rw [s a o e]; exact fun z => by cases z
theorem new_ne {H : Hp} {a p : Addr} (h : H a ≠ none) (n : H p = none) : p ≠ a := fun z => h (by rw [← z]; exact n)
theorem star_lit {e : Expr} {es : List Expr} {env : Env} {d : PyData} (h : litOf e = some d) : starEach (e :: es) env = (false, eval e env) :: starEach es env := by
  cases e <;> first | rfl | (simp [litOf] at h)
section
variable {X : Cx}
mutual
theorem pe_lit : ∀ (e : Expr) {d : PyData}, litOf e = some d → PE X e (tLit d)
  | .Constant .none _ _, _, h => by
    have e := Option.some.inj h; subst e
    exact pe_non.weak fun σ H Q ⟨a, _, q⟩ => q _ _ (Same.refl H) .non
  | .Constant (.bool b) _ _, _, h => by
    have e := Option.some.inj h; subst e
    exact pe_bl.weak fun σ H Q ⟨a, _, q⟩ => q _ _ (Same.refl H) (.bl b)
  | .Constant (.int i) _ _, _, h => by
    have e := Option.some.inj h; subst e
    exact pe_int.weak fun σ H Q ⟨a, _, q⟩ => q _ _ (Same.refl H) (.int i)
  | .Constant (.str x) _ _, _, h => by
    have e := Option.some.inj h; subst e
    exact pe_str.weak fun σ H Q ⟨a, _, q⟩ => q _ _ (Same.refl H) (.str x)
  | .UnaryOp .USub (.Constant (.int i) _ _) _, _, h => by
    have e := Option.some.inj h; subst e
    exact (pe_un un_neg pe_int).weak fun σ H Q ⟨a, _, q⟩ => ⟨i, rfl, q _ _ (Same.refl H) (.int (-i))⟩
  | .BinOp (.Constant (.int i) _ _) .Pow (.Constant (.int j) _ _) _, d, h => by
    simp only [litOf] at h
    split at h
    · rename_i c
      have e := Option.some.inj h; subst e
      refine (pe_op op_pow pe_int pe_int).weak fun σ H Q ⟨a, _, q⟩ => ⟨i, j, rfl, rfl, ⟨c.1, by have := c.2.1; omega, by have := c.2.2; omega⟩, q _ _ (Same.refl H) (.int _)⟩
    · cases h
  | .Tuple es _ _, d, h => by
    simp only [litOf] at h
    split at h
    · rename_i ds hd
      split at h
      · rename_i c
        have e := Option.some.inj h; subst e
        refine (pe_tup (pa_lits es hd)).weak fun σ H Q ⟨a, n, q⟩ => ⟨a, n, fun vs H1 s1 d1 => ⟨sz (by rw [d1.len]; omega), fun p hp => ?_⟩⟩
        have s2 := same_new (o := .tup vs) hp
        exact q _ _ (s1.trans s2) (.tup (new_ne (same_some s1 n) hp) upd_same (d1.same s2))
      · cases h
    · cases h
  | .List es _, d, h => by
    simp only [litOf] at h
    split at h
    · rename_i ds hd
      split at h
      · rename_i c
        have e := Option.some.inj h; subst e
        refine (pe_lst (pa_lits es hd)).weak fun σ H Q ⟨a, n, q⟩ => ⟨a, n, fun vs H1 s1 d1 => ⟨sz (by rw [d1.len]; omega), fun p hp => ?_⟩⟩
        have s2 := same_new (o := .lst vs) hp
        exact q _ _ (s1.trans s2) (.lst (new_ne (same_some s1 n) hp) upd_same (d1.same s2))
      · cases h
    · cases h
  | .Dict [] [] _, d, h => by
    have e := Option.some.inj h; subst e
    refine pe_dnewK.weak fun σ H Q ⟨a, n, q⟩ => fun p hp => ?_
    exact q _ _ (same_new hp) (.dct (new_ne n hp) upd_same)
theorem pa_lits : ∀ (es : List Expr) {ds : List PyData}, litsOf es = some ds → PA X es (tLits ds)
  | [], _, h => by
    have e := Option.some.inj h; subst e
    exact pa_nil.weak fun σ H Q ⟨a, _, q⟩ => q _ _ (Same.refl H) .nil
  | e :: es, ds, h => by
    simp only [litsOf] at h
    split at h
    · rename_i d ds' hd hds
      have z := Option.some.inj h; subst z
      refine (pa_cons (pe_lit e hd) (pa_lits es hds) (star_lit hd)).weak fun σ H Q ⟨a, n, q⟩ => ⟨a, n, fun v H1 s1 d1 => ⟨a, same_some s1 n, fun vs H2 s2 d2 => ?_⟩⟩
      exact q _ _ (s1.trans s2) (.cons (d1.same s2) d2)
    · cases h
end
end
end Tw

set_option Elab.async false
set_option linter.all false
set_option maxRecDepth 100000
set_option maxHeartbeats 4000000
/-! rules: texts of data, a tuple beside the empty one, a tuple turned round, kinds of data -/
namespace Tw
open PySem PySem.Spec PyProof.Rows L2
section
variable {X : Cx}

/-- repr of a list, a tuple -/
def rShow (K : PySem.W.Frag) : List V → Hp → VK → Prop := fun xs H Q =>
  ∃ p d, xs = [.ref p] ∧ Dp K H (.ref p) d ∧ SeqAt.shaped d = true ∧ d.showable = true ∧ d.shown.length ≤ sizeLine ∧ Q (.str d.shown) H
theorem noDict_of {d : PyData} (h : SeqAt.shaped d = true) : d.hasDict = false := by
  have c := SeqAt.canLay_of_shaped h
  exact PyData.hasDict_of_canLay d c
theorem call_show (hq : Qt X.A) (hu : X.A.units + 70 < cLine) : CallR X (.builtin "repr") (rShow X.K) := by
  intro pins s σ H xs us Q I r h
  obtain ⟨p, d, rfl, hd, hs, hw, hz, q⟩ := h
  obtain ⟨u, rfl, rx⟩ := vals1 r
  obtain ⟨as, rd⟩ := Dp.reads I d _ u hd rx
  cases rx
  have dp := SeqAt.depth_of_shaped hs
  refine repr_of_reads' rd hw (fun z => ?_) hq (by omega) (fun _ _ e => e) (fun h' t k keep => ?_) hz
  · rw [noDict_of hs] at z; cases z
  · exact ⟨.str d.shown, H, I.kept keep, ⟨_, rfl⟩, q⟩

/-- a tuple beside an empty one -/
def rT0 (ne : Bool) (K : PySem.W.Frag) : R2 := fun x y H Q =>
  ∃ a b xs ys, x = .ref a ∧ y = .ref b ∧ SqT K H a xs ∧ SqT K H b ys ∧ ys = [] ∧ Q (.bl (if ne then !xs.isEmpty else xs.isEmpty)) H
theorem t0_val {xs : List V} {its its2 : List Value} (r1 : Vals xs its) (r2 : Vals [] its2) :
    ((List.range (min its.toArray.size its2.toArray.size)).all (fun _ => true) && its.toArray.size == its2.toArray.size) = xs.isEmpty := by
  cases r2
  cases r1 with
  | nil => rfl
  | cons _ _ => simp
theorem op_eqT0 (hu : X.A.units + 64 < cLine) : OpR X (compareOp .Eq) (rT0 false X.K) := by
  intro pins s σ H x y v u Q I rx ry h
  obtain ⟨a, b, xs, ys, rfl, rfl, ha, hb, rfl, q⟩ := h
  cases rx
  cases ry
  obtain ⟨its, r1, p1, _⟩ := I.tuple ha
  obtain ⟨its2, r2, p2, _⟩ := I.tuple hb
  refine SeqAt.RcAt.tuples (e := fun _ => true) p1 p2 (by omega) (fun j h1 h2 => ?_) _ _ _ _ ⟨.bl xs.isEmpty, H, I, ?_, q⟩
  · cases r2
    exact absurd h2 (by simp)
  · show Value.bool _ = Value.bool _
    rw [t0_val r1 r2]
theorem op_neT0 (hu : X.A.units + 64 < cLine) : OpR X (compareOp .NotEq) (rT0 true X.K) := by
  intro pins s σ H x y v u Q I rx ry h
  obtain ⟨a, b, xs, ys, rfl, rfl, ha, hb, rfl, q⟩ := h
  cases rx
  cases ry
  obtain ⟨its, r1, p1, _⟩ := I.tuple ha
  obtain ⟨its2, r2, p2, _⟩ := I.tuple hb
  refine SeqAt.RcNeAt.tuples (e := fun _ => true) p1 p2 (by omega) (fun j h1 h2 => ?_) _ _ _ _ ⟨.bl (!xs.isEmpty), H, I, ?_, q⟩
  · cases r2
    exact absurd h2 (by simp)
  · show Value.bool _ = Value.bool _
    rw [t0_val r1 r2]

/-! ### t[::-1] -/
theorem applied_rev {prog : Program} {w : World} {A : Around} {E : Value → Shared → Prop} {s : Shared} {sl : Addr} {vl vu vs : Value} {n : Nat} {Q : Int × Int × Nat → Shared → Prop}
    (hs : s.heap.IsSliceOf sl vl vu vs) (pl : IsPart vl none) (pu : IsPart vu none) (pt : IsPart vs (some (-1))) (h : Q ((n : Int) - 1, -1, n) s) :
    wpAny (model prog w) A (Builtin.Slice.sliceApplied (.ref sl) (pure (n : Int))) Q E s := by
  obtain ⟨ob, e1, e2, e3⟩ := id hs
  unfold Builtin.Slice.sliceApplied Builtin.Slice.sliceFields
  refine wpAny_bind (wpAny_bind (wpAny_field e1 e3 (x := vl) rfl ?_))
  refine wpAny_bind (wpAny_field e1 e3 (x := vu) rfl ?_)
  refine wpAny_bind (wpAny_field e1 e3 (x := vs) rfl (wpAny_pure ?_))
  refine wpAny_bind (HT.slicePart_ pt ?_)
  show wpAny _ _ (if ((-1 : Int) == 0) = true then _ else _) _ _ s
  rw [if_neg (by decide)]
  refine wpAny_bind (HT.slicePart_ pl ?_)
  refine wpAny_bind (HT.slicePart_ pu (wpAny_bind (wpAny_pure (wpAny_pure ?_))))
  have ep : Builtin.Slice.slicePlaces ((n : Int) - 1) (-1) (-1) = n := by
    unfold Builtin.Slice.slicePlaces
    have c1 : ¬ ((-1 : Int) > 0) := by decide
    simp only [c1, if_false]
    by_cases c : (n : Int) - 1 > -1
    · simp only [c, if_true]
      have : ((n : Int) - 1 - -1 - 1) / (- -1) = (n : Int) - 1 := by
        rw [show (- -1 : Int) = 1 by decide, Int.ediv_one]; omega
      omega
    · simp only [c, if_false]
      omega
  show Q (_, (-1 : Int), Builtin.Slice.slicePlaces ((n : Int) - 1) (-1) (-1)) s
  rw [ep]
  exact h
theorem fm_congr {α β : Type} {f g : α → Option β} : ∀ (l : List α), (∀ k ∈ l, f k = g k) → l.filterMap f = l.filterMap g
  | [], _ => rfl
  | k :: l, h => by
    rw [List.filterMap_cons, List.filterMap_cons, h k (by simp), fm_congr l fun j hj => h j (by simp [hj])]
theorem pick_rev (xs : Array Value) : ((List.range xs.size).filterMap fun (k : Nat) => xs[(((xs.size : Int) - 1) + (k : Int) * (-1)).toNat]?).toArray = xs.toList.reverse.toArray := by
  congr 1
  have e : (List.range xs.size).filterMap (fun (k : Nat) => xs[(((xs.size : Int) - 1) + (k : Int) * (-1)).toNat]?) = ((List.range xs.size).map fun k => xs.size - 1 - k).filterMap (xs[·]?) := by
    rw [List.filterMap_map]
    refine fm_congr _ fun k hk => ?_
    have hlt := List.mem_range.mp hk
    have e : (((xs.size : Int) - 1) + (k : Int) * (-1)).toNat = xs.size - 1 - k := by omega
    show xs[(((xs.size : Int) - 1) + (k : Int) * (-1)).toNat]? = xs[xs.size - 1 - k]?
    rw [e]
  rw [e, PySem.W.krv_range, List.filterMap_reverse, PySem.W.krv_all]
theorem getItem_rev {prog : Program} {w : World} {A : Around} {E : Value → Shared → Prop} {s : Shared} {t sl : Addr} {items : Array Value} {vl vu vs : Value} {Q : Value → Shared → Prop}
    (ht : IsTup s.heap t items) (hs : s.heap.IsSliceOf sl vl vu vs) (pl : IsPart vl none) (pu : IsPart vu none) (pt : IsPart vs (some (-1))) (hz : items.size ≤ sizeLine)
    (h : Q (.ref s.heap.objs.size) { s with heap := s.heap.push { cls := .type "tuple", data := .seq items.toList.reverse.toArray } }) :
    wpAny (model prog w) A (getItem (.ref t) (.ref sl)) Q E s := by
  have ty : s.TypeIs (.ref sl) "slice" := by obtain ⟨ob, e1, e2, e3⟩ := id hs; exact ⟨ob, e1, e2⟩
  have ok : sizeOk (.seq items.toList.reverse.toArray) := by
    show items.toList.reverse.toArray.size ≤ sizeLine
    simpa using hz
  unfold getItem
  (try with_reducible refine wpAny_holding ?_); (first | refine wpAny_bind (wpAny_pure ?_) | skip)
  refine wpAny_bind (wpAny_sequenceKey ht.typeIs (by decide) ?_)
  have sg := PyProof.Rows.slot_tuple_getitem
  refine wpAny_bind (wpAny_callSpecial?_slot (name := Str.ofString "__getitem__") ht.typeIs sg ?_)
  refine wpAny_call_entry sg ht.typeIs entry_tuple_getitem ?_ (args_tuple_getitem _ _)
  refine (show wpAny _ _ (Builtin.Tuple.tupleItemsOf (.ref t) >>= _) _ _ s from ?_)
  refine wpAny_bind (tupleItemsOf_ ht (wpAny_bind (wpAny_typeOf ty ?_)))
  rw [if_pos (by decide)]
  refine wpAny_bind (applied_rev hs pl pu pt ?_)
  have no : ¬ (((items.size : Int) - 1 == 0 && (-1 : Int) == 1 && items.size == items.size) = true) := by simp
  show wpAny _ _ (if ((items.size : Int) - 1 == 0 && (-1 : Int) == 1 && items.size == items.size) = true then _ else _) _ _ s
  rw [if_neg no, pick_rev]
  first
    | exact wpAny_bind (wpAny_bind (m := Builtin.Tuple.tupleExact _) (wpAny_newObj_type (wpAny_pure ⟨_, rfl, wpAny_pure h⟩) ok))
    | exact wpAny_bind (m := Builtin.Tuple.tupleExact _) (wpAny_newObj_type (wpAny_pure ⟨_, rfl, wpAny_pure h⟩) ok)
    | exact wpAny_bind (m := Builtin.Tuple.tupleExact _) (wpAny_newObj_type (wpAny_bind (wpAny_pure (wpAny_pure ⟨_, rfl, wpAny_pure h⟩))) ok)
    | exact wpAny_bind (wpAny_bind (m := Builtin.Tuple.tupleExact _) (wpAny_newObj_type (wpAny_pure (wpAny_pure ⟨_, rfl, wpAny_pure h⟩)) ok))
def tRevT (K : PySem.W.Frag) (te : TE) : TE := fun σ H Q => te σ H fun x H1 => ∃ a xs, x = .ref a ∧ SqT K H1 a xs ∧ ∀ p, H1 p = none → Q (.ref p) (upd H1 p (.tup xs.reverse))
theorem pe_revT {e : Expr} {te : TE} {k : Nat} {p1 p2 p3 pos : Pos} (he : PE X e te) :
    PE X (.Subscript e (.Slice none none (some (.UnaryOp .USub (.Constant (.int 1) k p1) p2)) p3) pos) (tRevT X.K te) := by
  refine ⟨fun pins s σ H Q I h => Subscript_ (thn (he.run pins s σ H _ I h) ?_)⟩
  rintro v s1 ⟨x, H1, I1, r1, a, xs, ex, hx, q⟩
  subst ex
  cases r1
  have step : PO X (some (.UnaryOp .USub (.Constant (.int 1) k p1) p2)) (tPart (tUn (rU fun i => .int (-i)) (tC (.int 1)))) := po_some (pe_un un_neg pe_int)
  refine wpAny_Slice (thn (po_none.run pins s1 σ H1 (fun o G => o = none ∧ G = H1) I1 ⟨rfl, rfl⟩) ?_)
  rintro vl s2 ⟨l, G2, I2, pl, rfl, rfl⟩
  refine thn (po_none.run pins s2 σ G2 (fun o G => o = none ∧ G = G2) I2 ⟨rfl, rfl⟩) ?_
  rintro vu s3 ⟨l3, G3, I3, pu, rfl, rfl⟩
  refine thn (step.run pins s3 σ G3 (fun o G => o = some (-1) ∧ G = G3) I3 ⟨1, rfl, -1, rfl, rfl, rfl⟩) ?_
  rintro vs s4 ⟨l4, G4, I4, pt, rfl, rfl⟩
  have I5 := I4.kept (h' := s4.heap.push { cls := .type "slice", data := .fields #[vl, vu, vs] }) (t' := s4.toks) fun b ob z => Heap.get?_push_of_some _ z
  obtain ⟨its, r, ht, hz⟩ := I5.tuple hx
  have hl := r.length
  refine tail_any (ops := [.ref a, .ref s4.heap.objs.size]) ht.typeIs PyProof.Rows.slot_tuple_getitem.lookup ?_ (by with_unfolding_all rfl)
  refine getItem_rev ht (Heap.IsSliceOf.new _ vl vu vs) pl pu pt (by rw [List.size_toArray]; omega) ?_
  have J := I5.laid (t' := s4.toks) (o := .tup xs.reverse) (fun b ob z => Heap.get?_push_of_some _ z) (Nat.le_refl _)
    ⟨by rw [List.length_reverse]; exact hz, its.reverse, Vals.reverse r, IsTup.new _ _⟩
  exact ⟨.ref _, _, J, rfl, q _ (I5.hok.fresh (Nat.le_refl _))⟩
end

/-! ### kinds -/
def kindOf : PyData → String
  | .none => "NoneType"
  | .bool _ => "bool"
  | .int _ => "int"
  | .str _ => "str"
  | .list _ => "list"
  | .tuple _ => "tuple"
  | .dict _ => "dict"
theorem Da.ty {a : Addr} {H : Hp} {K : PySem.W.Frag} : ∀ {v : V} {d : PyData}, Da a H v d → TyX K H v (.type (kindOf d))
  | _, _, .non => .base .non
  | _, _, .bl b => .base (.bl b)
  | _, _, .int i => .base (.int i)
  | _, _, .str x => .base (.str x)
  | _, _, .lst _ h _ => .base (.lst h)
  | _, _, .tup _ h _ => .base (.tup h)
  | _, _, .dct _ h => .base (.dK h)
end Tw

set_option Elab.async false
set_option linter.all false
set_option maxRecDepth 100000
set_option maxHeartbeats 4000000
/-! the end of a law whose def wants quiet -/
namespace Tw
open PySem PySem.Spec PyProof.Rows L2

/-- a promise wide enough that says nothing of exceptions, over a heap in which the script alone may be known -/
theorem law_quiet {P : Program} {w : World} {K : PySem.W.Frag} {mg mb : Str → Option Value} {k : Nat} {fa a : Addr} {fd : FuncData}
    {x : Str} {sp : Sp} {s₁ : Shared} {vs : List Value} {ns : List Int} (KX : K.In s₁.heap) (hns : s₁.heap.Ns mainGlobals mg)
    (hb : s₁.heap.Ns builtinsNs mb) (hbb : ∀ x : Str, x ≠ "__name__" → mb x = bootBuiltins x) (hlim : s₁.heap.NoLimit)
    (hg : s₁.gens = #[]) (ha : s₁.heap.get? a = some { cls := .type "list", data := .seq vs.toArray }) (hi : IntsAre vs ns)
    (hl : ns.length ≤ sizeLine) (hr : Room k callerA)
    (F : ∀ base : Heap, K.In base → base.Ns mainGlobals mg → FnG P w K mg base k fa fd [x] sp)
    (hbind : ∀ (s : Shared) (u : Value), BindsTo s fd ⟨[u], []⟩ [(x, u)])
    (hsp : ∀ H : Hp, Only H → SqL K H a (ns.map V.int) → sp [.ref a] H (fun v _ => v = .bl true) E0) :
    codeAny (model P w) callerA (.call (.ref fa) ⟨[.ref a], []⟩)
      (fun r s' => r = .ok (.ret (.bool true)) ∧ OldK s₁.heap s'.heap ∧ s'.os = s₁.os ∧ AllBare s'.gens) s₁ := by
  have hv := vals_ints hi
  have hn := hi.length
  have main : ∀ H : Hp, Only H → SqL K H a (ns.map V.int) → HOk P w H s₁.heap → (∀ b u, H b = some u → b = a ∧ K.lookup a = none) →
      codeAny (model P w) callerA (.call (.ref fa) ⟨[.ref a], []⟩)
        (fun r s' => r = .ok (.ret (.bool true)) ∧ OldK s₁.heap s'.heap ∧ s'.os = s₁.os ∧ AllBare s'.gens) s₁ := by
    intro H hO hS hok hA
    have dictFree : ∀ {b : Addr} {o : Obj} {es : Array DictEntry} {ep : Nat},
        s₁.heap.get? b = some o → o.data = .dict es ep → H b = none := by
      intro b o es ep e d
      cases q : H b with
      | none => rfl
      | some u =>
        obtain ⟨e1, _⟩ := hA b u q
        rw [e1, ha] at e
        injection e with e
        rw [← e] at d
        exact absurd d (by intro z; cases z)
    have nsB : ∀ {b : Addr} {m : Str → Option Value}, s₁.heap.Ns b m → (hidT s₁.heap H).Ns b m := by
      rintro b m ⟨o, es, ep, e, d, r⟩
      exact ⟨o, es, ep, hidT_get e (dictFree e d), d, r⟩
    have kB : K.In (hidT s₁.heap H) := by
      intro b o e
      refine hidT_get (KX b o e) ?_
      cases q : H b with
      | none => rfl
      | some u =>
        obtain ⟨e1, e2⟩ := hA b u q
        rw [e1, e2] at e
        cases e
    have hM : Mod K mg (hidT s₁.heap H) := by
      obtain ⟨mc, l1, l2⟩ := hlim
      exact ⟨kB, nsB hns, ⟨mb, nsB hb, hbb⟩, ⟨mc, nsB l1, l2⟩⟩
    have noB : ∀ b : Addr, b ∈ frs ([] : List Env) → False := fun b z => by simp [frs] at z
    have e0 : Env0 P w K mg (hidT s₁.heap H) callerA [] s₁ H :=
      ⟨rfl, hM, fun b o e => of_hidT e, Nat.le_of_eq (hidT_size _ _), trivial, fun b z => (noB b z).elim, hok, .of_eq hg⟩
    have go := (F _ kB (nsB hns)).goes callerA [] s₁ H ⟨[.ref a], []⟩ [.ref a] [.ref a] (fun v _ => v = .bl true) E0 rfl hr e0
      (hbind s₁ (.ref a)) (.cons rfl .nil) (hsp H hO hS)
    refine codeAny_mono go fun r s' h => ?_
    cases r with
    | error e => exact False.elim h
    | ok fl =>
      cases fl with
      | next => exact False.elim h
      | brk => exact False.elim h
      | cont => exact False.elim h
      | ret u =>
        obtain ⟨v, H', os, bare, un, hok', rv, q⟩ := h
        subst q
        cases (show u = Value.bool true from rv)
        refine ⟨rfl, OldK.of_keep fun b o e => ?_, os, bare⟩
        cases q : H b with
        | none => exact un.keep b o e q (fun z => noB b z) (by simp)
        | some u =>
          cases hO b with
          | inl z => rw [q] at z; cases z
          | inr z =>
            obtain ⟨ob, xs, z⟩ := z
            have f1 := (hok b _ z).1
            have f2 := (hok' b _ (un.frzs b ob _ z)).1
            rw [e] at f1
            rw [f2, ← f1]
  cases hk : K.lookup a with
  | some o =>
    have e := KX a o hk
    rw [ha] at e
    injection e with e
    subst e
    refine main (fun _ => none) (fun _ => Or.inl rfl) (Or.inr ⟨_, vs.toArray, _, hk, rfl, rfl, rfl, ?_, by simpa using hv⟩) ?_ ?_
    · rw [List.size_toArray, hn]; exact hl
    · intro b u z; exact absurd z (by intro y; cases y)
    · intro b u z; exact absurd z (by intro y; cases y)
  | none =>
    let Ha : Hp := fun b => if b = a then some (.frz { cls := .type "list", data := .seq vs.toArray } (.lst (ns.map V.int))) else none
    have ya : ∀ b, b = a → Ha b = some (.frz { cls := .type "list", data := .seq vs.toArray } (.lst (ns.map V.int))) := fun b h => if_pos h
    have na : ∀ b, b ≠ a → Ha b = none := fun b h => if_neg h
    refine main Ha (fun b => ?_) (Or.inl (Or.inr ⟨_, ya a rfl⟩)) (fun b u z => ?_) (fun b u z => ?_)
    · by_cases h : b = a
      · exact Or.inr ⟨_, _, ya b h⟩
      · exact Or.inl (na b h)
    · by_cases h : b = a
      · rw [ya b h] at z
        injection z with z
        subst z h
        exact ⟨ha, by rw [List.length_map]; exact hl, vs, _, hv, ha⟩
      · rw [na b h] at z; cases z
    · by_cases h : b = a
      · exact ⟨h, hk⟩
      · rw [na b h] at z; cases z

theorem walk_quiet {l : PySem.W.OpenLaw} {n k : Nat} {q : Program} {loose : List Str} {XP : (Str → Option Value) → Heap → Prop}
    {YP : World → Heap → Prop} {d : DefRec} {K : Params → PySem.W.Frag} {sp : PySem.W.Frag → Sp} {x : Str} (hn : l.most = some n)
    (hn2 : n ≤ sizeLine) (hdf : d.params.defaults = []) (hr : Room k callerA)
    (hY : ∀ (w : World) (h : Heap), YP w h → (K w.params).In h)
    (F : ∀ (w : World) (mg : Str → Option Value) (fa : Addr) (h : Heap), (K w.params).In h → h.Ns mainGlobals mg →
      mg d.name = some (.ref fa) → ∃ fd : FuncData, (∀ (s : Shared) (u : Value), BindsTo s fd ⟨[u], []⟩ [(x, u)]) ∧
        ∀ base : Heap, (K w.params).In base → base.Ns mainGlobals mg → FnG l.prog w (K w.params) mg base k fa fd [x] (sp (K w.params)))
    (hsp : ∀ (K : PySem.W.Frag) (H : Hp) (a : Addr) (ns : List Int), ns.length ≤ n → Only H → SqL K H a (ns.map V.int) →
      sp K [.ref a] H (fun v _ => v = .bl true) E0) :
    PySem.W.WalkO q loose XP YP l.row.toRowW d [] (fun f vs => PySem.call f vs) := by
  refine Att.attach_call hn hdf ?_
  intro w s₀ s₁ mg mb fa o pm cd doc a vs ns G Y ho hd hcd hmg hobj hints hlen hg
  have kx := hY w _ Y
  obtain ⟨fd, hb, hF⟩ := F w mg fa _ kx G.T.g hmg
  exact law_quiet kx G.T.g G.T.b G.T.builtins G.T.nolimit hg hobj hints (Nat.le_trans hlen hn2) hr hF hb
    fun H hO hS => hsp _ H a ns hlen hO hS
end Tw

set_option Elab.async false
set_option linter.all false
set_option maxRecDepth 100000
set_option maxHeartbeats 4000000
/-! defs of the text, and calls of them by name -/
namespace Tw
open PySem PySem.Spec PyProof.Rows L2

/-- the def st stands at the name x -/
def Def (K : PySem.W.Frag) (mg : Str → Option Value) (x : Str) (st : Stmt) (ps : List Str) : Prop :=
  ∃ f fd, Fun K x x st f fd ∧ mg x = some (.ref f) ∧ Binds K fd ps []
/-- f is a def, fd -/
def FdAt (K : PySem.W.Frag) (f : Addr) (fd : FuncData) : Prop := ∃ oc od osl, K.lookup f = some ⟨oc, od, .func fd, osl⟩
theorem fdAt {K : PySem.W.Frag} {x q : Str} {st : Stmt} {f : Addr} {fd : FuncData} (F : Fun K x q st f fd) : FdAt K f fd := by
  obtain ⟨oc, od, _, _, _, _, _, _, osl, _, lk, _⟩ := F.ex
  exact ⟨oc, od, osl, lk⟩
/-- what stands at the name x keeps the promise -/
def Cal (P : Program) (w : World) (K : PySem.W.Frag) (mg : Str → Option Value) (base : Heap) (x : Str) (k : Nat) (ps : List Str) (sp : Sp) : Prop :=
  ∃ f fd, FnOk P w K mg base CX0 k f fd ps sp ∧ mg x = some (.ref f) ∧ PySem.W.keepIn K (.ref f) = true ∧ Binds K fd ps [] ∧ FdAt K f fd
def CalG (P : Program) (w : World) (K : PySem.W.Frag) (mg : Str → Option Value) (base : Heap) (x : Str) (k : Nat) (ps : List Str) (sp : Sp) : Prop :=
  ∃ f fd, FnG P w K mg base k f fd ps sp ∧ mg x = some (.ref f) ∧ PySem.W.keepIn K (.ref f) = true ∧ Binds K fd ps [] ∧ FdAt K f fd
section
variable {P : Program} {w : World} {K : PySem.W.Frag} {mg : Str → Option Value} {base : Heap} {x : Str} {st : Stmt} {ps N : List Str} {k : Nat} {sp : Sp}
theorem Def.ok (D : Def K mg x st ps) (S : FnScope N ps (defScope st)) (many : ∀ vs H Q E, sp vs H Q E → vs.length = ps.length)
    (hbody : ∀ (f : Addr) (cdv : Value) (A : Around) (out : List Env) (s : Shared) (H : Hp) (vs : List V) (Q : VK) (E : XK),
      Room k (A.deeper (envOfC x (defScope st) s.heap.objs.size f cdv)) → sp vs H Q E →
      ∃ t, PSs (cxOf CX0 P w K mg base N x (defScope st) f cdv A out s H E).nox (defBody st) t ∧
        t { nx := fun _ H' => Q .non H', rt := Q } (start N vs) H) : Cal P w K mg base x (k + 1) ps sp := by
  obtain ⟨f, fd, F, m, b⟩ := D
  exact ⟨f, fd, F.ok S many (fun cdv A out s H vs Q E hr hs => hbody f cdv A out s H vs Q E hr hs), m, F.kp, b, fdAt F⟩
theorem Def.okG (D : Def K mg x st ps) (S : FnScope N ps (defScope st)) (many : ∀ vs H Q E, sp vs H Q E → vs.length = ps.length)
    (hbody : ∀ (f : Addr) (cdv : Value) (A : Around) (out : List Env) (s : Shared) (H : Hp) (vs : List V) (Q : VK) (E : XK),
      Qt (A.deeper (envOfC x (defScope st) s.heap.objs.size f cdv)) →
      Room k (A.deeper (envOfC x (defScope st) s.heap.objs.size f cdv)) → sp vs H Q E →
      ∃ t, PSs (cxOf CX0 P w K mg base N x (defScope st) f cdv A out s H E).nox (defBody st) t ∧
        t { nx := fun _ H' => Q .non H', rt := Q } (start N vs) H) : CalG P w K mg base x (k + 1) ps sp := by
  obtain ⟨f, fd, F, m, b⟩ := D
  exact ⟨f, fd, Fun.okG F S many (fun cdv A out s H vs Q E hq hr hs => hbody f cdv A out s H vs Q E hq hr hs), m, F.kp, b, fdAt F⟩
theorem Cal.imp {sp' : Sp} (C : Cal P w K mg base x k ps sp) (h : ∀ vs H Q E, sp' vs H Q E → sp vs H Q E) : Cal P w K mg base x k ps sp' := by
  obtain ⟨f, fd, F, r⟩ := C
  exact ⟨f, fd, F.imp h, r⟩
theorem Cal.up {j : Nat} (C : Cal P w K mg base x j ps sp) (h : j ≤ k) : Cal P w K mg base x k ps sp := by
  obtain ⟨f, fd, F, r⟩ := C
  exact ⟨f, fd, F.mono h, r⟩
theorem def_mk {h : Heap} {f : Addr} {oc kV dc pm cd ct : Value} {od an : Option Addr} {sl : Array (Option Value)} (X : K.In h) (G : h.Ns mainGlobals mg)
    (a : PySem.W.nsIn K mainGlobals x = some (some (.ref f)))
    (l : K.lookup f = some ⟨oc, od, .func (PySem.W.fnOf x x (defArgs st) (defBody st) (defScope st) .none kV dc pm an cd ct), sl⟩)
    (c : PySem.W.codeIn K cd x = true) (kp : PySem.W.keepIn K (.ref f) = true)
    (hb : ∀ (kV doc pm : Value) (an : Option Addr) (cdv ct : Value) (us : List Value), us.length = ps.length →
      bindArgs (PySem.W.fnOf x x (defArgs st) (defBody st) (defScope st) .none kV doc pm an cdv ct) ⟨us, []⟩ = pure (ps.zip us)) : Def K mg x st ps := by
  have F := fun_mk (st := st) l c kp
  exact ⟨f, _, F, PySem.W.mg_of X G a, F.binds hb⟩
end
section
variable {X : Cx} {k j : Nat} {ps : List Str} {sp : Sp} {x : Str} {p pos : Pos} {e : Expr} {es : List Expr} {t : TA}
/-- f(e, ..) -/
theorem pe_cal (C : Cal X.prog X.w X.K X.mg X.base x j ps sp) (hr : Room k X.A) (hj : j ≤ k) (hg : Gl X x) (ha : PA X (e :: es) t) (hdb : (x == ("__debug__" : Str)) = false := by decide)
    (he : starEach (e :: es) X.env = (false, eval e X.env) :: starEach es X.env := by rfl) (hpl : (backTo pos (starEach es X.env)).any (·.1) = false := by rfl) :
    PE X (.Call (.Name x p) (e :: es) [] pos) (tCall sp [] E0 t) := by
  obtain ⟨f, fd, F, m, kp, b, _⟩ := C
  exact pe_call F (hr.mono hj) hg m kp b .nil pass0 ha hdb he hpl
theorem pe_calG (C : CalG X.prog X.w X.K X.mg X.base x j ps sp) (hq : Qt X.A) (hr : Room k X.A) (hj : j ≤ k) (hg : Gl X x) (ha : PA X (e :: es) t) (hdb : (x == ("__debug__" : Str)) = false := by decide)
    (he : starEach (e :: es) X.env = (false, eval e X.env) :: starEach es X.env := by rfl) (hpl : (backTo pos (starEach es X.env)).any (·.1) = false := by rfl) :
    PE X (.Call (.Name x p) (e :: es) [] pos) (tCall sp [] E0 t) := by
  obtain ⟨f, fd, F, m, kp, b, _⟩ := C
  exact pe_callG F hq (hr.mono hj) hg m kp b ha hdb he hpl

/-- f(k = e, ..), nothing by position: ks the names as they are written, g puts the values in the parameters' order -/
theorem pe_calK {st : Stmt} {ks : List Str} {kws : List Keyword} (g : List Value → List Value) (gV : List V → List V) (C : Cal X.prog X.w X.K X.mg X.base x j ps sp) (D : Def X.K X.mg x st ps) (hr : Room k X.A) (hj : j ≤ k) (hg : Gl X x)
    (hb : ∀ (kV doc pm : Value) (an : Option Addr) (cdv ct : Value) (us : List Value), us.length = ks.length →
      bindArgs (PySem.W.fnOf x x (defArgs st) (defBody st) (defScope st) .none kV doc pm an cdv ct) ⟨[], ks.zip us⟩ = pure (ps.zip (g us)))
    (hrel : ∀ {zs : List V} {us : List Value}, Vals zs us → us.length = ks.length → Vals (gV zs) (g us)) (ha : PK X kws t)
    (hn : ∀ zs H Q, t zs H Q → t zs H fun vs H' => vs.length = ks.length ∧ Q vs H')
    (hall : (backToKw pos (keywordEach kws X.env)).all (·.1.isSome) = true := by rfl) (hks : (backToKw pos (keywordEach kws X.env)).filterMap (·.1) = ks := by rfl)
    (hdb : (x == ("__debug__" : Str)) = false := by decide)
    (hpl : ((backTo pos (starEach [] X.env)).any (·.1) || (backToKw pos (keywordEach kws X.env)).any (·.1.isNone)) = false := by rfl) :
    PE X (.Call (.Name x p) [] kws pos) (fun σ H Q => t σ H fun zs H1 => sp (gV zs) H1 Q E0) := by
  obtain ⟨f, fd, F, m, kp, b, oc, od, osl, lk⟩ := C
  obtain ⟨f', fd', F', m', _⟩ := D
  have e1 : f' = f := by rw [m] at m'; injection m' with z; injection z with z; exact z.symm
  subst e1
  obtain ⟨oc', od', kV, doc, pm, an, cdv, ct, osl', e2, lk', _⟩ := F'.ex
  rw [lk] at lk'
  injection lk' with lk'
  injection lk' with _ _ e3 _
  injection e3 with e3
  subst e3
  refine ⟨fun pins s σ H Q I h => wpAny_Call_Name_kw (ld_glob I hg m ?_ hdb)⟩
  refine PySem.W.callWith_KW0 (h₀ := X.base) I.ok.mod.kin kp hall ?_ hpl
  refine thn (ha.run pos pins s σ H _ I (hn σ H _ h)) ?_
  rintro ws s2 ⟨zs, H2, I2, rz, hl, q2⟩
  rw [hks]
  refine ⟨I2.kIn, wpAny_call ?_⟩
  have hw : ws.length = ks.length := by rw [← Vals.length rz]; exact hl
  have bt : BindsTo s2 fd ⟨[], ks.zip ws⟩ (ps.zip (g ws)) := by
    rw [e2]
    exact .of_eq (hb kV doc pm an cdv ct ws hw)
  refine codeAny_mono (F.run X.A X.stack s2 H2 ⟨[], ks.zip ws⟩ (g ws) (gV zs) Q E0 (hr.mono hj) I2.env0 bt (hrel rz hw) q2) fun r s' hh => ?_
  cases r with
  | error z => exact False.elim hh
  | ok fl =>
    cases fl with
    | ret u => exact I2.after hh
    | next => exact False.elim hh
    | brk => exact False.elim hh
    | cont => exact False.elim hh
end

section
variable {P : Program} {w : World} {K : PySem.W.Frag} {mg : Str → Option Value} {st : Stmt} {x y : Str} {k : Nat} {sp : Sp} {fa : Addr}
theorem end_law (D : Def K mg x st [y]) (hfa : mg x = some (.ref fa)) (F : ∀ base : Heap, CalG P w K mg base x k [y] sp)
    (hb : ∀ (kV doc pm : Value) (an : Option Addr) (cdv ct u : Value), bindArgs (PySem.W.fnOf x x (defArgs st) (defBody st) (defScope st) .none kV doc pm an cdv ct) ⟨[u], []⟩ = pure [(y, u)]) :
    ∃ fd : FuncData, (∀ (s : Shared) (u : Value), BindsTo s fd ⟨[u], []⟩ [(y, u)]) ∧ ∀ base : Heap, K.In base → base.Ns mainGlobals mg → FnG P w K mg base k fa fd [y] sp := by
  obtain ⟨f, fd, F', m, _⟩ := D
  have e1 : f = fa := by rw [hfa] at m; injection m with z; injection z with z; exact z.symm
  subst e1
  obtain ⟨oc, od, kV, doc, pm, an, cdv, ct, osl, e2, lk, _⟩ := F'.ex
  refine ⟨fd, fun s u => by rw [e2]; exact .of_eq (hb kV doc pm an cdv ct u), fun base _ _ => ?_⟩
  obtain ⟨f2, fd2, G, m2, _, _, oc2, od2, osl2, lk2⟩ := F base
  have e3 : f2 = f := by rw [hfa] at m2; injection m2 with z; injection z with z; exact z.symm
  subst e3
  rw [lk] at lk2
  injection lk2 with lk2
  injection lk2 with _ _ e4 _
  injection e4 with e4
  rw [e4]
  exact G
end

theorem with_def {R : Prop} {K : PySem.W.Frag} {mg : Str → Option Value} {x : Str} {st : Stmt} {ps : List Str} {h : Heap} {f : Addr} {oc kV dc pm cd ct : Value} {od an : Option Addr} {sl : Array (Option Value)} (X : K.In h) (G : h.Ns mainGlobals mg)
    (a : PySem.W.nsIn K mainGlobals x = some (some (.ref f)))
    (l : K.lookup f = some ⟨oc, od, .func (PySem.W.fnOf x x (defArgs st) (defBody st) (defScope st) .none kV dc pm an cd ct), sl⟩)
    (c : PySem.W.codeIn K cd x = true) (kp : PySem.W.keepIn K (.ref f) = true)
    (hb : ∀ (kV doc pm : Value) (an : Option Addr) (cdv ct : Value) (us : List Value), us.length = ps.length →
      bindArgs (PySem.W.fnOf x x (defArgs st) (defBody st) (defScope st) .none kV doc pm an cdv ct) ⟨us, []⟩ = pure (ps.zip us))
    (go : Def K mg x st ps → R) : R := go (def_mk X G a l c kp hb)
theorem with_no {R : Prop} {K : PySem.W.Frag} {mg : Str → Option Value} {x : Str} {h : Heap} (X : K.In h) (G : h.Ns mainGlobals mg) (z : PySem.W.nsIn K mainGlobals x = some none) (go : mg x = none → R) : R := go (PySem.W.mg_none_of X G z)
end Tw

set_option Elab.async false
set_option linter.all false
set_option maxRecDepth 100000
set_option maxHeartbeats 4000000
/-! comprehensions over data, small facts -/
namespace Tw
open PySem PySem.Spec PyProof.Rows L2
theorem same_upd {H H' : Hp} {D : Addr} {o : HO} (s : Same H H') (n : H D = none) : Same H (upd H' D o) := fun b u e => by
  rw [upd_ne (ne_of_none e n)]; exact s b u e
theorem kp_upd {a : Addr} {H H' : Hp} {D : Addr} {o : HO} (s : Kp a H H') (n : H D = none) : Kp a H (upd H' D o) := fun b u ne e => by
  rw [upd_ne (ne_of_none e n)]; exact s b u ne e
theorem lt_line {n : Nat} (h : n < 100000) : n < sizeLine := Nat.lt_of_lt_of_le h (by decide)
theorem take_map {α β : Type} (f : α → β) {ds : List α} {i : Nat} {d : α} (h : ds[i]? = some d) : (ds.take i).map f ++ [f d] = (ds.take (i + 1)).map f := by
  rw [List.take_add_one, h, List.map_append]; rfl
section
variable {K : PySem.W.Frag} {te : TE} {i j : Nat} {elt : TE} {vs : List Nat} {σ : L2.St} {H : Hp} {Q : VK} {a p : Addr} {xs : List V} {ds : List PyData}
/-- [f(d) for d in t], t a tuple of data -/
theorem lc_mapT (f : PyData → V) (hv : σ[i]? = some (some (.ref p))) (ht : H p = some (.tup xs)) (hd : DaAll a H xs ds) (hn : xs.length < 100000)
    (hw : ∀ x, wipe ((wipe σ vs).set j (some x)) vs = wipe σ vs)
    (he : ∀ x d H1, d ∈ ds → Same H H1 → Da a H1 x d → ∀ R : VK, (∀ H2, Same H1 H2 → R (f d) H2) → elt ((wipe σ vs).set j (some x)) H1 R)
    (q : ∀ D H', Same H H' → H D = none → H' D = some (.lst (ds.map f)) → Q (.ref D) H') : tLc (iTup K (tVar i)) (gName j) tYes elt vs σ H Q := by
  refine ⟨.ref p, hv, p, rfl, ⟨xs, SqT.of ht⟩, fun D hD => ?_⟩
  refine lc_tup (xs := xs) (fun m H' => Same H H' ∧ H' D = some (.lst ((ds.take m).map f))) ⟨same_new hD, upd_same⟩ (fun m H' _ h => SqT.of (h.1 _ _ ht)) (fun m x H1 hx h => ?_) (fun H' h => ?_)
  · obtain ⟨h1, h2⟩ := h
    obtain ⟨d, e1, e2⟩ := hd.get hx
    have hm : m < xs.length := (List.getElem?_eq_some_iff.mp hx).1
    refine ⟨hw x, ?_⟩
    unfold tYes
    simp only [if_true]
    refine he x d H1 (List.mem_of_getElem? e1) h1 (e2.same h1) _ fun H2 s2 => ⟨(ds.take m).map f, s2 _ _ h2, ?_, same_upd (h1.trans s2) hD, ?_⟩
    · rw [List.length_map, List.length_take]; exact lt_line (by omega)
    · rw [upd_same, take_map f e1]
  · obtain ⟨h1, h2⟩ := h
    rw [hd.len, List.take_length] at h2
    exact q D H' h1 hD h2
theorem lc_mapL (f : PyData → V) (hv : σ[i]? = some (some (.ref p))) (ht : H p = some (.lst xs)) (hd : DaAll a H xs ds) (hn : xs.length < 100000)
    (hw : ∀ x, wipe ((wipe σ vs).set j (some x)) vs = wipe σ vs)
    (he : ∀ x d H1, d ∈ ds → Same H H1 → Da a H1 x d → ∀ R : VK, (∀ H2, Same H1 H2 → R (f d) H2) → elt ((wipe σ vs).set j (some x)) H1 R)
    (q : ∀ D H', Same H H' → H D = none → H' D = some (.lst (ds.map f)) → Q (.ref D) H') : tLc (iList K (tVar i)) (gName j) tYes elt vs σ H Q := by
  refine ⟨.ref p, hv, p, rfl, ⟨xs, SqL.of ht⟩, fun D hD => ?_⟩
  refine lc_list (xs := xs) (fun m H' => Same H H' ∧ H' D = some (.lst ((ds.take m).map f))) ⟨same_new hD, upd_same⟩ (fun m H' _ h => SqL.of (h.1 _ _ ht)) (fun m x H1 hx h => ?_) (fun H' h => ?_)
  · obtain ⟨h1, h2⟩ := h
    obtain ⟨d, e1, e2⟩ := hd.get hx
    have hm : m < xs.length := (List.getElem?_eq_some_iff.mp hx).1
    refine ⟨hw x, ?_⟩
    unfold tYes
    simp only [if_true]
    refine he x d H1 (List.mem_of_getElem? e1) h1 (e2.same h1) _ fun H2 s2 => ⟨(ds.take m).map f, s2 _ _ h2, ?_, same_upd (h1.trans s2) hD, ?_⟩
    · rw [List.length_map, List.length_take]; exact lt_line (by omega)
    · rw [upd_same, take_map f e1]
  · obtain ⟨h1, h2⟩ := h
    rw [hd.len, List.take_length] at h2
    exact q D H' h1 hD h2
end

/-! ### kinds, tests of kinds -/
def isIntD : PyData → Bool
  | .int _ => true
  | .bool _ => true
  | _ => false
def isBoolD : PyData → Bool
  | .bool _ => true
  | _ => false
def isTupD : PyData → Bool
  | .tuple _ => true
  | _ => false
theorem isi_int {K : PySem.W.Frag} (d : PyData) : PySem.W.kitOne K (.type (kindOf d)) (.type "int") = some (isIntD d) := by
  cases d with
  | none => exact kit_ty (show kitB "NoneType" "int" = some false by decide +kernel)
  | bool _ => exact kit_ty (show kitB "bool" "int" = some true by decide +kernel)
  | int _ => exact kit_ty (show kitB "int" "int" = some true by decide +kernel)
  | str _ => exact kit_ty (show kitB "str" "int" = some false by decide +kernel)
  | list _ => exact kit_ty (show kitB "list" "int" = some false by decide +kernel)
  | tuple _ => exact kit_ty (show kitB "tuple" "int" = some false by decide +kernel)
  | dict _ => exact kit_ty (show kitB "dict" "int" = some false by decide +kernel)
theorem isi_bool {K : PySem.W.Frag} (d : PyData) : PySem.W.kitOne K (.type (kindOf d)) (.type "bool") = some (isBoolD d) := by
  cases d with
  | none => exact kit_ty (show kitB "NoneType" "bool" = some false by decide +kernel)
  | bool _ => exact kit_ty (show kitB "bool" "bool" = some true by decide +kernel)
  | int _ => exact kit_ty (show kitB "int" "bool" = some false by decide +kernel)
  | str _ => exact kit_ty (show kitB "str" "bool" = some false by decide +kernel)
  | list _ => exact kit_ty (show kitB "list" "bool" = some false by decide +kernel)
  | tuple _ => exact kit_ty (show kitB "tuple" "bool" = some false by decide +kernel)
  | dict _ => exact kit_ty (show kitB "dict" "bool" = some false by decide +kernel)
theorem isi_tup {K : PySem.W.Frag} (d : PyData) : PySem.W.kitOne K (.type (kindOf d)) (.type "tuple") = some (isTupD d) := by
  cases d with
  | none => exact kit_ty (show kitB "NoneType" "tuple" = some false by decide +kernel)
  | bool _ => exact kit_ty (show kitB "bool" "tuple" = some false by decide +kernel)
  | int _ => exact kit_ty (show kitB "int" "tuple" = some false by decide +kernel)
  | str _ => exact kit_ty (show kitB "str" "tuple" = some false by decide +kernel)
  | list _ => exact kit_ty (show kitB "list" "tuple" = some false by decide +kernel)
  | tuple _ => exact kit_ty (show kitB "tuple" "tuple" = some true by decide +kernel)
  | dict _ => exact kit_ty (show kitB "dict" "tuple" = some false by decide +kernel)
/-- isinstance(x, T) of a datum -/
theorem isi {K : PySem.W.Frag} {a : Addr} {H : Hp} {Q : VK} {v : V} {d : PyData} {T : String} {b : Bool} (h : Da a H v d) (k : PySem.W.kitOne K (.type (kindOf d)) (.type T) = some b) (q : Q (.bl b) H) :
    rIsi K [v, .ty T] H Q := ⟨v, .ty T, .type (kindOf d), .type T, b, rfl, .ty T, h.ty, k, q⟩

/-! ### how deep, how wide -/
mutual
def dep : PyData → Nat
  | .list ds => dep1 ds + 1
  | .tuple ds => dep1 ds + 1
  | _ => 0
def dep1 : List PyData → Nat
  | [] => 0
  | d :: ds => max (dep d) (dep1 ds)
end
mutual
def wid : PyData → Nat
  | .list ds => max ds.length (wid1 ds)
  | .tuple ds => max ds.length (wid1 ds)
  | _ => 0
def wid1 : List PyData → Nat
  | [] => 0
  | d :: ds => max (wid d) (wid1 ds)
end
theorem dep1_mem {d : PyData} : ∀ {ds : List PyData}, d ∈ ds → dep d ≤ dep1 ds
  | e :: ds, h => by
    rw [dep1]
    rcases List.mem_cons.mp h with rfl | h
    · exact Nat.le_max_left _ _
    · exact Nat.le_trans (dep1_mem h) (Nat.le_max_right _ _)
theorem wid1_mem {d : PyData} : ∀ {ds : List PyData}, d ∈ ds → wid d ≤ wid1 ds
  | e :: ds, h => by
    rw [wid1]
    rcases List.mem_cons.mp h with rfl | h
    · exact Nat.le_max_left _ _
    · exact Nat.le_trans (wid1_mem h) (Nat.le_max_right _ _)
theorem dep1_le {n : Nat} : ∀ {ds : List PyData}, (∀ d ∈ ds, dep d ≤ n) → dep1 ds ≤ n
  | [], _ => Nat.zero_le _
  | d :: ds, h => by
    rw [dep1]
    exact Nat.max_le.mpr ⟨h d (by simp), dep1_le fun e he => h e (by simp [he])⟩
theorem wid1_le {n : Nat} : ∀ {ds : List PyData}, (∀ d ∈ ds, wid d ≤ n) → wid1 ds ≤ n
  | [], _ => Nat.zero_le _
  | d :: ds, h => by
    rw [wid1]
    exact Nat.max_le.mpr ⟨h d (by simp), wid1_le fun e he => h e (by simp [he])⟩
/-- at most n deep, m wide -/
def Sm (n m : Nat) (d : PyData) : Prop := dep d ≤ n ∧ wid d ≤ m
theorem Sm.up {n m n' m' : Nat} {d : PyData} (h : Sm n m d) (h1 : n ≤ n') (h2 : m ≤ m') : Sm n' m' d := ⟨Nat.le_trans h.1 h1, Nat.le_trans h.2 h2⟩
theorem sm_tup {n m : Nat} {ds : List PyData} (hl : ds.length ≤ m) (h : ∀ d ∈ ds, Sm n m d) : Sm (n + 1) m (.tuple ds) :=
  ⟨by rw [dep]; exact Nat.succ_le_succ (dep1_le fun d hd => (h d hd).1), by rw [wid]; exact Nat.max_le.mpr ⟨hl, wid1_le fun d hd => (h d hd).2⟩⟩
theorem sm_lst {n m : Nat} {ds : List PyData} (hl : ds.length ≤ m) (h : ∀ d ∈ ds, Sm n m d) : Sm (n + 1) m (.list ds) :=
  ⟨by rw [dep]; exact Nat.succ_le_succ (dep1_le fun d hd => (h d hd).1), by rw [wid]; exact Nat.max_le.mpr ⟨hl, wid1_le fun d hd => (h d hd).2⟩⟩
theorem Sm.len {n m : Nat} {ds : List PyData} (h : Sm n m (.tuple ds)) : ds.length ≤ m := by
  have := h.2
  rw [wid] at this
  exact Nat.le_trans (Nat.le_max_left _ _) this
theorem Sm.dep1 {n m : Nat} {ds : List PyData} (h : Sm n m (.tuple ds)) : 1 ≤ n := by
  have := h.1
  rw [dep] at this
  omega
theorem Sm.mem {n m : Nat} {ds : List PyData} {d : PyData} (h : Sm n m (.tuple ds)) (hd : d ∈ ds) : Sm (n - 1) m d := by
  obtain ⟨h1, h2⟩ := h
  rw [dep] at h1
  rw [wid] at h2
  have := dep1_mem hd
  exact ⟨by omega, Nat.le_trans (wid1_mem hd) (Nat.le_trans (Nat.le_max_right _ _) h2)⟩
def smB (n m : Nat) (d : PyData) : Bool := decide (dep d ≤ n) && decide (wid d ≤ m)
theorem sm_of {n m : Nat} {d : PyData} (h : smB n m d = true) : Sm n m d := by
  unfold smB at h
  simpa [Sm] using h

/-- a loop over a range, its body already read -/
theorem for_rng {lo : Int} {n : Nat} {B : (L2.St → Hp → Prop) → V → L2.St → Hp → Prop} {nx : L2.St → Hp → Prop} {σ : L2.St} {H : Hp} (Pv : Nat → L2.St → Hp → Prop) (h0 : Pv 0 σ H)
    (hs : ∀ (i : Nat) σ' H', i < n → Pv i σ' H' → B (Pv (i + 1)) (.int (lo + i)) σ' H') (hd : ∀ σ' H', Pv n σ' H' → nx σ' H') :
    ∃ W : Nat → Nat → L2.St → Hp → Prop, (∃ m, W 0 m σ H) ∧ ∀ i m σ H, W i m σ H →
      ((Itr lo n).stop i H ∧ nx σ H) ∨ ((Itr lo n).go i H ∧ ∃ N : L2.St → Hp → Prop, (∀ σ' H', N σ' H' → ∃ m', m' < m ∧ W (i + 1) m' σ' H') ∧ ∀ x H', (Itr lo n).yld i H x H' → B N x σ H') := by
  refine ⟨fun i m σ H => m = n - i ∧ i ≤ n ∧ Pv i σ H, ⟨n, by simp, Nat.zero_le _, h0⟩, ?_⟩
  rintro i m σ' H' ⟨rfl, hi, p⟩
  by_cases c : i < n
  · refine Or.inr ⟨c, Pv (i + 1), fun σ2 H2 p2 => ⟨n - (i + 1), by omega, rfl, c, p2⟩, fun x H2 y => ?_⟩
    obtain ⟨e1, e2⟩ := y
    subst e1 e2
    exact hs i σ' _ c p
  · have e : i = n := by omega
    subst e
    exact Or.inl ⟨by show i ≤ i; omega, hd σ' H' p⟩

/-- a loop over a list, its body already read -/
theorem for_lst {K : PySem.W.Frag} {a : Addr} {xs : List V} {B : (L2.St → Hp → Prop) → V → L2.St → Hp → Prop} {nx : L2.St → Hp → Prop} {σ : L2.St} {H : Hp} (Pv : Nat → L2.St → Hp → Prop) (h0 : Pv 0 σ H)
    (hl : ∀ i σ' H', i ≤ xs.length → Pv i σ' H' → SqL K H' a xs)
    (hs : ∀ (i : Nat) x σ' H', xs[i]? = some x → Pv i σ' H' → B (Pv (i + 1)) x σ' H') (hd : ∀ σ' H', Pv xs.length σ' H' → nx σ' H') :
    ∃ W : Nat → Nat → L2.St → Hp → Prop, (∃ m, W 0 m σ H) ∧ ∀ i m σ H, W i m σ H →
      ((Itl K a).stop i H ∧ nx σ H) ∨ ((Itl K a).go i H ∧ ∃ N : L2.St → Hp → Prop, (∀ σ' H', N σ' H' → ∃ m', m' < m ∧ W (i + 1) m' σ' H') ∧ ∀ x H', (Itl K a).yld i H x H' → B N x σ H') := by
  refine ⟨fun i m σ H => m = xs.length - i ∧ i ≤ xs.length ∧ Pv i σ H, ⟨xs.length, by simp, Nat.zero_le _, h0⟩, ?_⟩
  rintro i m σ' H' ⟨rfl, hi, p⟩
  have ql := hl i σ' H' hi p
  by_cases c : i < xs.length
  · refine Or.inr ⟨⟨xs, xs[i], ql, by simp [c]⟩, Pv (i + 1), fun σ2 H2 p2 => ⟨xs.length - (i + 1), by omega, rfl, c, p2⟩, fun x H2 y => ?_⟩
    obtain ⟨e1, e2⟩ := y
    subst e1
    exact hs i x σ' _ (e2 xs ql) p
  · have e : i = xs.length := by omega
    subst e
    exact Or.inl ⟨⟨xs, ql, Nat.le_refl _⟩, hd σ' H' p⟩

theorem same_kp {a : Addr} {H H1 H2 : Hp} (s : Same H H1) (n : H a = none) (k : Kp a H1 H2) : Same H H2 := fun b o e => k b o (ne_of_none e n) (s b o e)
/-- [f(i) for i in range(n)] -/
theorem lc_rng {wi : TI} {j : Nat} {elt : TE} {vs : List Nat} {σ : L2.St} {H : Hp} {Q : VK} {n : Nat} (f : Nat → V) (hi : ∀ R : It → Hp → Prop, R (Itr 0 n) H → wi σ H R) (hn : n < 100000)
    (hw : ∀ x, wipe ((wipe σ vs).set j (some x)) vs = wipe σ vs)
    (he : ∀ (i : Nat) H1, i < n → Same H H1 → ∀ R : VK, (∀ H2, Same H1 H2 → R (f i) H2) → elt ((wipe σ vs).set j (some (.int (0 + (i : Int))))) H1 R)
    (q : ∀ D H', Same H H' → H D = none → H' D = some (.lst ((List.range n).map f)) → Q (.ref D) H') : tLc wi (gName j) tYes elt vs σ H Q := by
  refine hi _ fun D hD => ?_
  refine lc_range (lo := 0) (n := n) (fun m H' => Same H H' ∧ H' D = some (.lst ((List.range m).map f))) ⟨same_new hD, upd_same⟩ (fun m H1 hm h => ?_) (fun H' h => q D H' h.1 hD h.2)
  obtain ⟨h1, h2⟩ := h
  refine ⟨hw _, ?_⟩
  unfold tYes
  simp only [if_true]
  refine he m H1 hm h1 _ fun H2 s2 => ⟨(List.range m).map f, s2 _ _ h2, ?_, same_upd (h1.trans s2) hD, ?_⟩
  · rw [List.length_map, List.length_range]; exact lt_line (by omega)
  · rw [upd_same, List.range_succ, List.map_append]; rfl
end Tw

set_option Elab.async false
set_option linter.all false
set_option maxRecDepth 100000
set_option maxHeartbeats 4000000
/-! numbers that may be True or False -/
namespace Tw
open PySem PySem.Spec PyProof.Rows L2
/-- a number, True and False among them -/
inductive Nu : V → Int → Prop
  | int (i : Int) : Nu (.int i) i
  | bl (b : Bool) : Nu (.bl b) (if b = true then 1 else 0)
theorem nu_of {a : Addr} {H : Hp} {v : V} {d : PyData} (h : Da a H v d) (t : isIntD d = true) : ∃ i, Nu v i := by
  cases h with
  | int i => exact ⟨i, .int i⟩
  | bl b => exact ⟨_, .bl b⟩
  | _ => cases t
def rNl (f : Int → Int → Int) : R2 := fun x y H Q => ∃ i j, Nu x i ∧ y = .int j ∧ Q (.int (f i j)) H
def rNr (f : Int → Int → Int) : R2 := fun x y H Q => ∃ i j, x = .int i ∧ Nu y j ∧ Q (.int (f i j)) H
section
variable {X : Cx}
theorem op_addNl : OpR X (binaryOp .Add) (rNl fun i j => i + j) := by
  intro pins s σ H x y v u Q I rx ry h
  obtain ⟨i, j, nx, rfl, q⟩ := h
  obtain ⟨t, rfl⟩ := ry
  cases nx with
  | int _ => obtain ⟨t', rfl⟩ := rx; exact add_int ⟨.int _, H, I.tok _, ⟨_, rfl⟩, q⟩
  | bl b => cases rx; exact IntBool.add_bool_int ⟨.int _, H, I.tok _, ⟨_, rfl⟩, q⟩
theorem op_subNl : OpR X (binaryOp .Sub) (rNl fun i j => i - j) := by
  intro pins s σ H x y v u Q I rx ry h
  obtain ⟨i, j, nx, rfl, q⟩ := h
  obtain ⟨t, rfl⟩ := ry
  cases nx with
  | int _ => obtain ⟨t', rfl⟩ := rx; exact sub_int ⟨.int _, H, I.tok _, ⟨_, rfl⟩, q⟩
  | bl b => cases rx; exact IntBool.sub_bool_int ⟨.int _, H, I.tok _, ⟨_, rfl⟩, q⟩
theorem op_subNr : OpR X (binaryOp .Sub) (rNr fun i j => i - j) := by
  intro pins s σ H x y v u Q I rx ry h
  obtain ⟨i, j, rfl, ny, q⟩ := h
  obtain ⟨t, rfl⟩ := rx
  cases ny with
  | int _ => obtain ⟨t', rfl⟩ := ry; exact sub_int ⟨.int _, H, I.tok _, ⟨_, rfl⟩, q⟩
  | bl b => cases ry; exact IntBool.sub_int_bool ⟨.int _, H, I.tok _, ⟨_, rfl⟩, q⟩
/-- a small number times such a one -/
theorem op_mulNr : OpR X (binaryOp .Mult) (fun x y H Q => ∃ i j, x = .int i ∧ (-(2 ^ 64) < i ∧ i < 2 ^ 64) ∧ Nu y j ∧ Q (.int (i * j)) H) := by
  intro pins s σ H x y v u Q I rx ry h
  obtain ⟨i, j, rfl, ⟨b1, b2⟩, ny, q⟩ := h
  obtain ⟨t, rfl⟩ := rx
  cases ny with
  | int _ => obtain ⟨t', rfl⟩ := ry; exact mul_int ⟨.int _, H, I.tok _, ⟨_, rfl⟩, q⟩ (.of_left (intBits_le_64 b1 b2))
  | bl b => cases ry; exact IntBool.mul_int_bool ⟨.int _, H, I.tok _, ⟨_, rfl⟩, q⟩
/-- == of such a number and an int -/
theorem op_eqNl : OpR X (compareOp .Eq) (fun x y H Q => ∃ i j, Nu x i ∧ y = .int j ∧ Q (.bl (i == j)) H) := by
  intro pins s σ H x y v u Q I rx ry h
  obtain ⟨i, j, nx, rfl, q⟩ := h
  obtain ⟨t, rfl⟩ := ry
  cases nx with
  | int _ => obtain ⟨t', rfl⟩ := rx; exact eq_int ⟨.bl _, H, I, rfl, q⟩
  | bl b => cases rx; exact EqBoolInt.eq_bool_int ⟨.bl _, H, I, rfl, q⟩
end
end Tw

set_option Elab.async false
set_option linter.all false
set_option maxRecDepth 100000
set_option maxHeartbeats 4000000
/-! slices, sums, turned tuples of data -/
namespace Tw
open PySem PySem.Spec PyProof.Rows L2
section
variable {K : PySem.W.Frag} {a : Addr} {H : Hp} {v u : V} {ds es : List PyData} {Q : VK}
theorem da_tup (h : Da a H v (.tuple ds)) : ∃ p xs, v = .ref p ∧ p ≠ a ∧ H p = some (.tup xs) ∧ DaAll a H xs ds := by
  cases h with
  | tup n e r => exact ⟨_, _, rfl, n, e, r⟩
theorem cut_whole {ds : List PyData} {lo hi : Option Int} (h : HT.sIx ds.length 0 lo = 0 ∧ HT.sIx ds.length ds.length hi = ds.length) : cutD ds lo hi = ds := by
  unfold cutD
  rw [h.1, h.2, List.drop_zero, Nat.sub_zero, List.take_length]
theorem sl_da {lo hi : Option Int} (w : H a ≠ none) (h : Da a H v (.tuple ds)) (q : ∀ v' H', Same H H' → Da a H' v' (.tuple (cutD ds lo hi)) → Q v' H') : rSlA K v lo hi H Q := by
  obtain ⟨p, xs, rfl, np, hp, hx⟩ := da_tup h
  refine ⟨p, xs, rfl, SqT.of hp, fun c => ?_, fun c t nt => ?_⟩
  · rw [hx.len] at c
    exact q _ _ (Same.refl H) (by rw [cut_whole c]; exact h)
  · have s := same_new (o := .tup (cutV xs lo hi)) nt
    exact q _ _ s (.tup (new_ne w nt) upd_same ((hx.cut lo hi).same s))
theorem cat_da (w : H a ≠ none) (h : Da a H v (.tuple ds)) (g : Da a H u (.tuple es)) (hz : ds.length + es.length ≤ 100000) (q : ∀ v' H', Same H H' → Da a H' v' (.tuple (ds ++ es)) → Q v' H') : rCatA K v u H Q := by
  obtain ⟨p, xs, rfl, np, hp, hx⟩ := da_tup h
  obtain ⟨r, ys, rfl, nr, hr, hy⟩ := da_tup g
  refine ⟨p, r, xs, ys, rfl, rfl, SqT.of hp, SqT.of hr, sz (by rw [hx.len, hy.len]; exact hz), fun c => ?_, fun c c2 => ?_, fun c c2 t nt => ?_⟩
  · subst c
    cases hx
    exact q _ _ (Same.refl H) g
  · subst c2
    cases hy
    exact q _ _ (Same.refl H) (by rw [List.append_nil]; exact h)
  · have s := same_new (o := .tup (xs ++ ys)) nt
    exact q _ _ s (.tup (new_ne w nt) upd_same ((hx.append hy).same s))
theorem rev_da (w : H a ≠ none) (h : Da a H v (.tuple ds)) (q : ∀ v' H', Same H H' → Da a H' v' (.tuple ds.reverse) → Q v' H') :
    ∃ p xs, v = .ref p ∧ SqT K H p xs ∧ ∀ t, H t = none → Q (.ref t) (upd H t (.tup xs.reverse)) := by
  obtain ⟨p, xs, rfl, np, hp, hx⟩ := da_tup h
  refine ⟨p, xs, rfl, SqT.of hp, fun t nt => ?_⟩
  have s := same_new (o := .tup xs.reverse) nt
  exact q _ _ s (.tup (new_ne w nt) upd_same (hx.rev.same s))
theorem list_da (w : H a ≠ none) (h : Da a H v (.tuple ds)) (q : ∀ v' H', Same H H' → Da a H' v' (.list ds) → Q v' H') :
    ∃ p ys, [v] = [.ref p] ∧ (SqL K H p ys ∨ SqT K H p ys) ∧ ∀ l, H l = none → Q (.ref l) (upd H l (.lst ys)) := by
  obtain ⟨p, xs, rfl, np, hp, hx⟩ := da_tup h
  refine ⟨p, xs, rfl, .inr (SqT.of hp), fun t nt => ?_⟩
  have s := same_new (o := .lst xs) nt
  exact q _ _ s (.lst (new_ne w nt) upd_same (hx.same s))
/-- a written tuple of values that are data -/
theorem tup_da {vs : List V} (w : H a ≠ none) (h : DaAll a H vs ds) (hz : ds.length ≤ 100000) (q : ∀ v' H', Same H H' → Da a H' v' (.tuple ds) → Q v' H') :
    vs.length ≤ sizeLine ∧ ∀ p, H p = none → Q (.ref p) (upd H p (.tup vs)) := by
  refine ⟨sz (by rw [h.len]; exact hz), fun t nt => ?_⟩
  have s := same_new (o := .tup vs) nt
  exact q _ _ s (.tup (new_ne w nt) upd_same (h.same s))
theorem newT {vs : List V} {p : Addr} (w : H a ≠ none) (h : DaAll a H vs ds) (n : H p = none) : Same H (upd H p (.tup vs)) ∧ Da a (upd H p (.tup vs)) (.ref p) (.tuple ds) :=
  ⟨same_new n, .tup (new_ne w n) upd_same (h.same (same_new n))⟩
theorem newL {vs : List V} {p : Addr} (w : H a ≠ none) (h : DaAll a H vs ds) (n : H p = none) : Same H (upd H p (.lst vs)) ∧ Da a (upd H p (.lst vs)) (.ref p) (.list ds) :=
  ⟨same_new n, .lst (new_ne w n) upd_same (h.same (same_new n))⟩
/-- an item of such a one -/
theorem ix_da {i : Int} (h : Da a H v (.tuple ds)) (i0 : 0 ≤ i) (i1 : i < ds.length) (q : ∀ x d, d ∈ ds → Da a H x d → Q x H) : rIxT K v (.int i) H Q := by
  obtain ⟨p, xs, rfl, np, hp, hx⟩ := da_tup h
  obtain ⟨m, rfl⟩ := Int.eq_ofNat_of_zero_le i0
  have hm : m < xs.length := by rw [hx.len]; omega
  obtain ⟨d, e1, e2⟩ := hx.get (List.getElem?_eq_getElem hm)
  exact ⟨p, xs, _, xs[m], rfl, rfl, SqT.of hp, atI_nat (List.getElem?_eq_getElem hm), q _ d (List.mem_of_getElem? e1) e2⟩
end
theorem cut_mem {ds : List PyData} {lo hi : Option Int} {d : PyData} (h : d ∈ cutD ds lo hi) : d ∈ ds := List.mem_of_mem_drop (List.mem_of_mem_take h)
theorem cut_le (ds : List PyData) (lo hi : Option Int) : (cutD ds lo hi).length ≤ ds.length := by
  unfold cutD
  rw [List.length_take, List.length_drop]
  omega
theorem cut_upto (ds : List PyData) (k : Nat) : (cutD ds none (some (k : Int))).length = min k ds.length := by
  unfold cutD
  rw [HT.sIx_nat, HT.sIx_none, List.drop_zero, Nat.sub_zero, List.length_take]
  omega
theorem cut_from (ds : List PyData) (k : Nat) : (cutD ds (some (k : Int)) none).length = ds.length - min k ds.length := by
  unfold cutD
  rw [HT.sIx_nat, HT.sIx_none, List.length_take, List.length_drop]
  omega
theorem sm_sub {n m n' m' : Nat} {ds es : List PyData} (h : Sm n m (.tuple ds)) (hl : es.length ≤ m') (h1 : n ≤ n') (h2 : m ≤ m') (he : ∀ e ∈ es, e ∈ ds ∨ Sm (n' - 1) m' e) : Sm n' m' (.tuple es) := by
  have n1 := h.dep1
  have := sm_tup (n := n' - 1) hl fun e q => by
    rcases he e q with c | c
    · exact (h.mem c).up (by omega) h2
    · exact c
  exact this.up (by omega) (Nat.le_refl _)
theorem sm_subL {n m n' m' : Nat} {ds es : List PyData} (h : Sm n m (.tuple ds)) (hl : es.length ≤ m') (h1 : n ≤ n') (h2 : m ≤ m') (he : ∀ e ∈ es, e ∈ ds ∨ Sm (n' - 1) m' e) : Sm n' m' (.list es) := by
  have n1 := h.dep1
  have := sm_lst (n := n' - 1) hl fun e q => by
    rcases he e q with c | c
    · exact (h.mem c).up (by omega) h2
    · exact c
  exact this.up (by omega) (Nat.le_refl _)
theorem sm_int (n m : Nat) (i : Int) : Sm n m (.int i) := ⟨Nat.zero_le _, Nat.zero_le _⟩
theorem sm_bl (n m : Nat) (b : Bool) : Sm n m (.bool b) := ⟨Nat.zero_le _, Nat.zero_le _⟩
end Tw

set_option Elab.async false
set_option linter.all false
set_option maxRecDepth 100000
set_option maxHeartbeats 4000000
/-! rules: max with default, few times a tuple, *= and >>=, statements that are not reached -/
namespace Tw
open PySem PySem.Spec PyProof.Rows L2
section
variable {X : Cx}
/-- a statement that is not reached -/
def tDead : TS := fun _ _ _ => False
theorem ps_dead {st : Stmt} : PS X st tDead := ⟨fun _ _ _ _ _ _ h => h.elim⟩
theorem pss_dead {st : List Stmt} : PSs X st tDead := ⟨fun _ _ _ _ _ _ h => h.elim⟩
/-- max(l, default=0) of ints that are not negative -/
def maxN (ns : List Int) : Int := ns.foldl max 0
def rMaxZ (K : PySem.W.Frag) : List V → List V → Hp → VK → Prop := fun vs zs H Q => ∃ (a : Addr) (ns : List Int), vs = [.ref a] ∧ zs = [.int 0] ∧ SqL K H a (ns.map V.int) ∧ (∀ n ∈ ns, 0 ≤ n) ∧ Q (.int (maxN ns)) H
theorem cr_maxZ (hc : X.calm = true) (hu : X.A.units + 64 < cLine) : CallRK X (.builtin "max") [Str.ofString "default"] (rMaxZ X.K) := by
  intro pins s σ H vs zs us ws Q I r rz h
  obtain ⟨a, ns, rfl, rfl, hs, hn, q⟩ := h
  obtain ⟨its, rv, hl, _⟩ := I.list hs
  rw [Vals.ref1 r]
  obtain ⟨w1, rfl, e1⟩ := vals1 rz
  obtain ⟨t, rfl⟩ : ∃ t, w1 = Value.int 0 t := e1
  have rd : ReadsAll s.heap its.toArray.toList (ns.map .int) [] := IntsAre.reads _ rv.ints
  have dz : ∀ l : List Int, PyData.depthAll (l.map .int) = 0 := fun l => by
    induction l with
    | nil => rfl
    | cons n l ih => simp only [List.map_cons, PyData.depthAll, PyData.depth, ih]; rfl
  refine PySem.W.max_list_default (xs := ns.map .int) (I.ok.hd hc) hl.isList rd ⟨fun x hx y hy => ?_, fun x hx => ?_⟩ (by rw [dz]; show X.A.units + 1 + 0 < cLine; omega) (fun e h' tk k => ?_) (fun y ys i v h' tk bs e hv rv' k => ?_)
  · obtain ⟨i, _, rfl⟩ := List.mem_map.mp hx
    obtain ⟨j, _, rfl⟩ := List.mem_map.mp hy
    simp only [PySem.W.alike]
  · obtain ⟨i, _, rfl⟩ := List.mem_map.mp hx
    exact fun e => by cases e
  · have : ns = [] := by simpa using e
    subst this
    exact ⟨.int _, H, I.kept k, ⟨_, rfl⟩, q⟩
  · cases ns with
    | nil => cases e
    | cons n l =>
      rw [List.map_cons] at e
      injection e with e1 e2
      subst e1 e2
      rw [PySem.W.maxD_ints] at rv'
      cases rv' with
      | int _ t' =>
        have n0 := hn n (by simp)
        refine ⟨.int _, H, I.kept k, ⟨_, rfl⟩, ?_⟩
        have : maxN (n :: l) = l.foldl max n := by
          unfold maxN
          rw [List.foldl_cons]
          congr 1
          omega
        rw [← this]
        exact q
/-- o *= e, one of them small -/
theorem ip_mul : PIp X .Mult (fun x y H Q => ∃ i j, x = .int i ∧ y = .int j ∧ CMul i j ∧ Q (.int (i * j)) H) := by
  intro pins s σ H x y v u Q I r1 r2 h
  obtain ⟨i, j, rfl, rfl, c, q⟩ := h
  obtain ⟨t, rfl⟩ := r1
  obtain ⟨t', rfl⟩ := r2
  exact PyProof.Rows.imul_int ⟨.int _, H, I.tok _, ⟨_, rfl⟩, q⟩ c.ok
/-- o >>= 1 -/
theorem ip_half : PIp X .RShift (fun x y H Q => ∃ n : Nat, x = .int (n : Int) ∧ y = .int 1 ∧ Q (.int ((n / 2 : Nat) : Int)) H) := by
  intro pins s σ H x y v u Q I r1 r2 h
  obtain ⟨n, rfl, rfl, q⟩ := h
  obtain ⟨t, rfl⟩ := r1
  obtain ⟨t', rfl⟩ := r2
  refine PyProof.Rows.irshift_int (by decide) ?_
  rw [show (2 : Int) ^ (1 : Int).toNat = 2 from rfl, Int.fdiv_eq_ediv_of_nonneg _ (by decide)]
  exact ⟨.int _, H, I.tok _, ⟨_, rfl⟩, q⟩

/-! k times a tuple, k from 0 on -/
theorem tuple_mul1 (l : Addr) (items : Array Value) (n : Nat) (dd : Option Addr) (sl : Array (Option Value)) (u : Tok) :
    Meets (Builtin.«tuple.__mul__» ⟨[.ref l, .int 1 u], []⟩) (fun _ R s => s.heap.get? l = some { cls := .type "tuple", dict := dd, data := .seq items n, slots := sl } ∧ R (.ok (.ret (Value.ref l))) s) :=
  .of_wp fun prog w A R s h => by
    obtain ⟨hp, g, d, tk, os⟩ := s
    obtain ⟨hl, h⟩ := h
    have f1 := AutoSeq1.idx_int
    wp_walk using wpAny_loadPart' hl
    repeat (first
      | (refine wpAny_ite_false (by decide) ?_; wp_walk using wpAny_loadPart' hl)
      | (refine wpAny_ite_true (by simp) ?_; wp_walk using wpAny_loadPart' hl))
    exact ⟨_, rfl, h⟩
theorem tuple_mul0 (l : Addr) (items : Array Value) (n : Nat) (dd : Option Addr) (sl : Array (Option Value)) (u : Tok) (c1 : (items.isEmpty || (0 : Int) == 1) = false) :
    Meets (Builtin.«tuple.__mul__» ⟨[.ref l, .int 0 u], []⟩) (fun _ R s => s.heap.get? l = some { cls := .type "tuple", dict := dd, data := .seq items n, slots := sl } ∧
      R (.ok (.ret (Value.ref s.heap.objs.size))) { s with heap := s.heap.push { cls := Value.type "tuple", data := Data.seq #[] }, toks := s.toks }) :=
  .of_wp fun prog w A R s h => by
    obtain ⟨hp, g, d, tk, os⟩ := s
    obtain ⟨hl, h⟩ := h
    have f1 := AutoSeq1.idx_int
    wp_walk using wpAny_loadPart' hl
    repeat (first
      | (refine wpAny_ite_false (decide_eq_false (by rw [c1]; exact Bool.false_ne_true)) ?_; wp_walk using wpAny_loadPart' hl)
      | (refine wpAny_ite_false (by decide) ?_; wp_walk using wpAny_loadPart' hl)
      | (refine wpAny_ite_true (by simp) ?_; wp_walk using wpAny_loadPart' hl))
    exact ⟨_, rfl, h⟩
def rMulT (K : PySem.W.Frag) : R2 := fun x y H Q => ∃ (l : Addr) (k : Nat) (xs : List V), x = .ref l ∧ y = .int (k : Int) ∧ SqT K H l xs ∧ xs ≠ [] ∧ k ≤ 1000 ∧ xs.length ≤ 1000 ∧
  ∀ t H', Same H H' → SqT K H' t (List.replicate k xs).flatten → Q (.ref t) H'
theorem op_mulT : OpR X (binaryOp .Mult) (rMulT X.K) := by
  intro pins s σ H x y v u Q I rx ry h
  obtain ⟨l, k, xs, rfl, rfl, hT, hne, h1, hz, q⟩ := h
  rcases Nat.lt_or_ge 1 k with h2 | h2
  · exact op_repT pins s σ H _ _ v u Q I rx ry ⟨l, _, xs, rfl, rfl, hT, hne, by omega, by omega, hz, fun p np => q p _ (same_new np) (SqT.of (by rw [Int.toNat_natCast]; exact upd_same))⟩
  have rx' := rx
  cases rx
  obtain ⟨t, rfl⟩ := ry
  obtain ⟨its, r, ⟨⟨cls, dd, data, sl⟩, ho, hc, n, hd⟩, hs⟩ := I.tuple hT
  simp only at hc hd
  subst hc hd
  have hle : its.length = xs.length := r.length.symm
  have hn : its ≠ [] := fun e => hne (by
    rw [e] at hle
    exact List.eq_nil_of_length_eq_zero hle.symm)
  have hi : its.toArray.isEmpty = false := by
    cases its with
    | nil => exact absurd rfl hn
    | cons a b => rfl
  have hk : k = 0 ∨ k = 1 := by omega
  rcases hk with rfl | rfl
  · refine wpAny_binaryOp_repeat_ref (T := "tuple") (U := "int") (by decide) ⟨_, ho, rfl⟩ (fun s' => typeIs_int s' _ t) noFill_tuple_mul F.fills_int_mul F.slot_int_rmul repeat_tuple F.slot_int_index.lookup
      (call_meets F.slot_int_rmul (typeIs_int s _ t) F.entry_int_rmul (F.args_int_rmul_2 _ _) (int_rmul_tuple _ t l its.toArray n dd sl)
        ⟨ho, rfl, ⟨_, ho, rfl⟩, call_meets F.slot_tuple_mul ⟨_, ho, rfl⟩ F.entry_tuple_mul (F.args_tuple_mul_2 _ _) (tuple_mul0 l its.toArray n dd sl t (by rw [hi]; rfl)) ⟨ho, ?_⟩⟩)
    refine ⟨.ref s.heap.objs.size, _, I.laid (t' := s.toks) (o := .tup []) (fun b ob q => Heap.get?_push_of_some _ q) (Nat.le_refl _) ?_, rfl, q _ _ (same_new (I.hok.fresh (Nat.le_refl _))) (SqT.of upd_same)⟩
    exact ⟨by simp, _, .nil, IsTup.new _ _⟩
  · refine wpAny_binaryOp_repeat_ref (T := "tuple") (U := "int") (by decide) ⟨_, ho, rfl⟩ (fun s' => typeIs_int s' _ t) noFill_tuple_mul F.fills_int_mul F.slot_int_rmul repeat_tuple F.slot_int_index.lookup
      (call_meets F.slot_int_rmul (typeIs_int s _ t) F.entry_int_rmul (F.args_int_rmul_2 _ _) (int_rmul_tuple _ t l its.toArray n dd sl)
        ⟨ho, rfl, ⟨_, ho, rfl⟩, call_meets F.slot_tuple_mul ⟨_, ho, rfl⟩ F.entry_tuple_mul (F.args_tuple_mul_2 _ _) (tuple_mul1 l its.toArray n dd sl t) ⟨ho, ?_⟩⟩)
    exact ⟨.ref l, H, I, rfl, q _ _ (Same.refl H) (by simpa using hT)⟩
end
end Tw

set_option linter.all false
set_option maxRecDepth 10000
/-! numbers, rows, polys: what the answers are -/
namespace K27
/-- without the last items that z holds of -/
def trimBy {α : Type} (z : α → Bool) : List α → List α
  | [] => []
  | a :: l => match trimBy z l with
    | [] => if z a then [] else [a]
    | b :: r => a :: b :: r
theorem trimBy_take {α : Type} (z : α → Bool) : ∀ (l : List α) (k : Nat), k ≤ l.length → (∀ i a, k ≤ i → l[i]? = some a → z a = true) → (k = 0 ∨ ∃ a, l[k - 1]? = some a ∧ z a = false) → trimBy z l = l.take k
  | [], k, hk, _, _ => by simp [trimBy]
  | a :: l, 0, _, h1, _ => by
    have ih := trimBy_take z l 0 (Nat.zero_le _) (fun i b _ e => h1 (i + 1) b (Nat.zero_le _) (by simpa using e)) (.inl rfl)
    have za := h1 0 a (Nat.le_refl _) rfl
    simp [trimBy, ih, za]
  | a :: l, 1, _, h1, h2 => by
    have ih := trimBy_take z l 0 (Nat.zero_le _) (fun i b _ e => h1 (i + 1) b (by omega) (by simpa using e)) (.inl rfl)
    have za : z a = false := by
      rcases h2 with h2 | ⟨b, e, f⟩
      · cases h2
      · simp at e; subst e; exact f
    simp [trimBy, ih, za]
  | a :: l, k + 2, hk, h1, h2 => by
    have hk' : k + 1 ≤ l.length := by rw [List.length_cons] at hk; omega
    have ih := trimBy_take z l (k + 1) hk' (fun i b hi e => h1 (i + 1) b (by omega) (by simpa using e)) (by
      rcases h2 with h2 | ⟨b, e, f⟩
      · cases h2
      · exact .inr ⟨b, by simpa using e, f⟩)
    have hn : l.take (k + 1) ≠ [] := by
      intro e
      have := congrArg List.length e
      rw [List.length_take, List.length_nil] at this
      omega
    rw [trimBy, ih]
    cases e : l.take (k + 1) with
    | nil => exact absurd e hn
    | cons b r => simp [e]
theorem trimBy_len {α : Type} (z : α → Bool) : ∀ l : List α, (trimBy z l).length ≤ l.length
  | [] => Nat.le_refl _
  | a :: l => by
    have := trimBy_len z l
    rw [trimBy]
    split
    · split <;> simp
    · rename_i b r e
      rw [e] at this
      simpa using this
theorem trimBy_mem {α : Type} (z : α → Bool) {x : α} : ∀ l : List α, x ∈ trimBy z l → x ∈ l
  | [], h => h
  | a :: l, h => by
    have ih := trimBy_mem z (x := x) l
    rw [trimBy] at h
    split at h
    · split at h
      · simp at h
      · simp at h; simp [h]
    · rename_i b r e
      rw [e] at ih
      rcases List.mem_cons.mp h with h | h
      · simp [h]
      · exact List.mem_cons_of_mem _ (ih h)
theorem trimBy_last {α : Type} (z : α → Bool) {x : α} : ∀ l : List α, (trimBy z l).getLast? = some x → z x = false
  | [], h => by simp [trimBy] at h
  | a :: l, h => by
    have ih := trimBy_last z (x := x) l
    rw [trimBy] at h
    split at h
    · split at h
      · simp at h
      · rename_i hz
        simp at h; subst h; simpa using hz
    · rename_i b r e
      rw [e] at ih
      exact ih (by simpa using h)
abbrev trimI (l : List Int) : List Int := trimBy (fun c => c == 0) l
abbrev trimP (p : List (List Int)) : List (List Int) := trimBy (fun r => r.isEmpty) p
/-- a row, a poly -/
def okR (r : List Int) : Prop := ∀ c, r.getLast? = some c → c ≠ 0
def okP (p : List (List Int)) : Prop := (∀ r ∈ p, okR r) ∧ ∀ r, p.getLast? = some r → r ≠ []
theorem okR_trim (l : List Int) : okR (trimI l) := fun c h => by
  have := trimBy_last _ _ h
  simpa using this
theorem okP_trim {p : List (List Int)} (h : ∀ r ∈ p, okR r) : okP (trimP p) := ⟨fun r hr => h r (trimBy_mem _ _ hr), fun r hr => by
  have := trimBy_last _ _ hr
  intro e
  subst e
  simp at this⟩
/-- at most n long, numbers at most b -/
def Bd (n : Nat) (b : Nat) (p : List (List Int)) : Prop := p.length ≤ n ∧ ∀ r ∈ p, r.length ≤ n ∧ ∀ c ∈ r, c.natAbs ≤ b
def T (n m : Int) : List Int → Int
  | [] => 0
  | c :: r => T n m r * n + c * m ^ r.length
def lng : List (List Int) → Nat
  | [] => 0
  | r :: p => max r.length (lng p)
theorem lng_le {r : List Int} : ∀ {p : List (List Int)}, r ∈ p → r.length ≤ lng p
  | a :: p, h => by
    rw [lng]
    rcases List.mem_cons.mp h with rfl | h
    · exact Nat.le_max_left _ _
    · exact Nat.le_trans (lng_le h) (Nat.le_max_right _ _)
theorem lng_bd {n : Nat} : ∀ {p : List (List Int)}, (∀ r ∈ p, r.length ≤ n) → lng p ≤ n
  | [], _ => Nat.zero_le _
  | r :: p, h => by
    rw [lng]
    exact Nat.max_le.mpr ⟨h r (by simp), lng_bd fun a ha => h a (by simp [ha])⟩
def numAt (n m : Int) (L : Nat) (r : List Int) : Int := T n m r * m ^ (L - r.length)
def nums (n m : Int) (p : List (List Int)) : List Int := p.map (numAt n m (lng p))
/-- what numbers and M share -/
def G : Nat → List Int → Nat
  | M, [] => M
  | M, x :: l => G (Nat.gcd M x.natAbs) l
def mm (m : Int) (k : Nat) : Nat := m.natAbs ^ k
def atx (n m : Int) (p : List (List Int)) : List Int := trimI ((nums n m p).map fun x => x / (G (mm m (lng p - 1)) (nums n m p) : Int))
def col (p : List (List Int)) (k : Nat) : List Int := trimI (p.map fun r => r.getD k 0)
def exch (p : List (List Int)) : List (List Int) := trimP ((List.range (lng p)).map (col p))
theorem okP_exch (p : List (List Int)) : okP (exch p) := okP_trim fun r hr => by
  obtain ⟨k, _, rfl⟩ := List.mem_map.mp hr
  exact okR_trim _
theorem bd_exch {n b : Nat} {p : List (List Int)} (h : Bd n b p) : Bd n b (exch p) := by
  refine ⟨Nat.le_trans (trimBy_len _ _) (by rw [List.length_map, List.length_range]; exact lng_bd fun r hr => (h.2 r hr).1), fun r hr => ?_⟩
  obtain ⟨k, _, rfl⟩ := List.mem_map.mp (trimBy_mem _ _ hr)
  refine ⟨Nat.le_trans (trimBy_len _ _) (by rw [List.length_map]; exact h.1), fun c hc => ?_⟩
  obtain ⟨r, hr, rfl⟩ := List.mem_map.mp (trimBy_mem _ _ hc)
  rw [List.getD_eq_getElem?_getD]
  cases e : r[k]? with
  | none => simp
  | some x => exact (h.2 r hr).2 x (List.mem_of_getElem? e)
theorem G_append : ∀ (M : Nat) (l : List Int) (x : Int), G M (l ++ [x]) = Nat.gcd (G M l) x.natAbs
  | M, [], x => rfl
  | M, y :: l, x => by
    show G _ (l ++ [x]) = Nat.gcd (G _ l) x.natAbs
    exact G_append _ l x
theorem G_dvd : ∀ (l : List Int) (M : Nat), G M l ∣ M
  | [], M => Nat.dvd_refl _
  | x :: l, M => Nat.dvd_trans (G_dvd l _) (Nat.gcd_dvd_left _ _)
theorem G_mem {y : Int} : ∀ (l : List Int) (M : Nat), y ∈ l → G M l ∣ y.natAbs
  | x :: l, M, h => by
    rcases List.mem_cons.mp h with rfl | h
    · exact Nat.dvd_trans (G_dvd l _) (Nat.gcd_dvd_right _ _)
    · exact G_mem l _ h
theorem G_gcd : ∀ (l : List Int) (a M : Nat), Nat.gcd (G a l) M = G (Nat.gcd a M) l
  | [], a, M => rfl
  | x :: l, a, M => by
    show Nat.gcd (G (Nat.gcd a x.natAbs) l) M = G (Nat.gcd (Nat.gcd a M) x.natAbs) l
    rw [G_gcd l, Nat.gcd_assoc, Nat.gcd_comm x.natAbs M, ← Nat.gcd_assoc]
theorem G_one (l : List Int) : G 1 l = 1 := Nat.eq_one_of_dvd_one (G_dvd l 1)
/-- the program's share -/
theorem G_zero (l : List Int) (M : Nat) : Nat.gcd (G 0 l) M = G M l := by rw [G_gcd, Nat.gcd_zero_left]
/-- a over b is N over D, b positive, nothing shared -/
def Lo (a b N D : Int) : Prop := 0 < b ∧ Nat.gcd a.natAbs b.natAbs = 1 ∧ a * D = N * b
theorem lo_share {a b N D : Int} (h : Lo a b N D) (d : 0 < D) : b * (Nat.gcd N.natAbs D.natAbs : Int) = D ∧ a * (Nat.gcd N.natAbs D.natAbs : Int) = N := by
  obtain ⟨b0, c, e⟩ := h
  have dv : b ∣ D := by
    have h1 : b.natAbs ∣ a.natAbs * D.natAbs := by
      rw [← Int.natAbs_mul, e, Int.natAbs_mul]
      exact Nat.dvd_mul_left _ _
    have h2 : b.natAbs ∣ D.natAbs := (Nat.Coprime.dvd_of_dvd_mul_left (Nat.coprime_comm.mp c) h1)
    exact Int.natAbs_dvd_natAbs.mp h2
  obtain ⟨k, rfl⟩ := dv
  have k0 : 0 < k := by
    rcases Int.lt_or_le 0 k with z | z
    · exact z
    · have := Int.mul_le_mul_of_nonneg_left z (Int.le_of_lt b0)
      rw [Int.mul_zero] at this
      omega
  have eN : N = a * k := by
    have h3 : (a * k) * b = N * b := by rw [← e, Int.mul_assoc, Int.mul_comm k b]
    exact (Int.eq_of_mul_eq_mul_right (by omega) h3).symm
  subst eN
  have g : (Nat.gcd (a * k).natAbs (b * k).natAbs : Int) = k := by
    rw [Int.natAbs_mul, Int.natAbs_mul, Nat.gcd_mul_right, c, Nat.one_mul]
    omega
  rw [g]
  exact ⟨rfl, rfl⟩
/-- the least common multiple's step -/
theorem lcm_step {l g b h M : Nat} (m0 : 0 < M) (e1 : l * g = M) (e2 : b * h = M) : (l * b / Nat.gcd l b) * Nat.gcd g h = M := by
  have hl : l ∣ M := ⟨g, e1.symm⟩
  have l0 : 0 < l := Nat.pos_of_dvd_of_pos hl m0
  have d0 : 0 < Nat.gcd l b := Nat.gcd_pos_of_pos_left _ l0
  have q : (l * b / Nat.gcd l b) * Nat.gcd l b = l * b := Nat.div_mul_cancel (Nat.dvd_trans (Nat.gcd_dvd_left l b) (Nat.dvd_mul_right _ _))
  have k : Nat.gcd g h * (l * b) = M * Nat.gcd l b := by
    rw [← Nat.gcd_mul_right]
    have a1 : g * (l * b) = M * b := by rw [← e1, ← Nat.mul_assoc, Nat.mul_comm g l]
    have a2 : h * (l * b) = M * l := by rw [← e2, Nat.mul_comm l b, ← Nat.mul_assoc, Nat.mul_comm h b]
    rw [a1, a2, Nat.gcd_mul_left, Nat.gcd_comm b l]
  refine Nat.eq_of_mul_eq_mul_right d0 ?_
  rw [Nat.mul_assoc, Nat.mul_comm (Nat.gcd g h), ← Nat.mul_assoc, q, Nat.mul_comm (l * b), k]
theorem pow_pos' {m : Int} (h : 0 < m) : ∀ k : Nat, 0 < m ^ k
  | 0 => by simp
  | k + 1 => by rw [Int.pow_succ]; exact Int.mul_pos (pow_pos' h k) h
theorem mm_eq {m : Int} (h : 0 < m) (k : Nat) : ((mm m k : Nat) : Int) = m ^ k := by
  unfold mm
  rw [Int.natCast_pow, Int.natAbs_of_nonneg (Int.le_of_lt h)]
/-- a row's worth, over the common base -/
theorem lo_at {n m a b : Int} {r : List Int} {L : Nat} (m0 : 0 < m) (hl : r.length ≤ L) (h : Lo a b (T n m r * m) (m ^ r.length)) : Lo a b (numAt n m L r) (m ^ (L - 1)) := by
  refine ⟨h.1, h.2.1, ?_⟩
  have e := h.2.2
  unfold numAt
  cases hr : r with
  | nil =>
    subst hr
    have : a = 0 := by simpa [T] using e
    simp [T, this]
  | cons c s =>
    rw [← hr]
    have l1 : r.length = s.length + 1 := by rw [hr]; rfl
    have e2 : a * m ^ s.length = T n m r * b := by
      rw [l1, Int.pow_succ] at e
      refine Int.eq_of_mul_eq_mul_right (a := m) (by omega) ?_
      rw [Int.mul_assoc, e, Int.mul_assoc, Int.mul_comm m b, Int.mul_assoc]
    have e3 : L - 1 = s.length + (L - r.length) := by omega
    rw [e3, Int.pow_add, ← Int.mul_assoc, e2, Int.mul_assoc, Int.mul_comm b, ← Int.mul_assoc]
/-! sizes -/
theorem T_le {n m : Int} {B : Nat} (hn : n.natAbs ≤ 12) (m0 : m.natAbs ≤ 7) : ∀ r : List Int, (∀ c ∈ r, c.natAbs ≤ B) → (T n m r).natAbs ≤ B * 20 ^ r.length
  | [], _ => by simp [T]
  | c :: r, h => by
    have ih := T_le hn m0 r fun d hd => h d (by simp [hd])
    have hc := h c (by simp)
    rw [T]
    refine Nat.le_trans (Int.natAbs_add_le _ _) ?_
    rw [Int.natAbs_mul, Int.natAbs_mul, Int.natAbs_pow, List.length_cons, Nat.pow_succ]
    have a1 : (T n m r).natAbs * n.natAbs ≤ B * 20 ^ r.length * 12 := Nat.mul_le_mul ih hn
    have a2 : c.natAbs * m.natAbs ^ r.length ≤ B * 20 ^ r.length := Nat.mul_le_mul hc (Nat.le_trans (Nat.pow_le_pow_left m0 _) (Nat.pow_le_pow_left (by omega) _))
    have a3 : B * (20 ^ r.length * 20) = B * 20 ^ r.length * 20 := by rw [Nat.mul_assoc]
    omega
theorem num_le {n m : Int} {B L : Nat} (hn : n.natAbs ≤ 12) (m0 : m.natAbs ≤ 7) (hL : L ≤ 10) {r : List Int} (hr : r.length ≤ 10) (h : ∀ c ∈ r, c.natAbs ≤ B) : (numAt n m L r).natAbs ≤ B * 20 ^ 10 * 7 ^ 10 := by
  unfold numAt
  rw [Int.natAbs_mul, Int.natAbs_pow]
  refine Nat.mul_le_mul (Nat.le_trans (T_le hn m0 r h) (Nat.mul_le_mul_left _ (Nat.pow_le_pow_right (by omega) hr))) ?_
  exact Nat.le_trans (Nat.pow_le_pow_left m0 _) (Nat.pow_le_pow_right (by omega) (by omega))
theorem lo_lean {top low : Int} (h : 0 < low) : Lo (top / (Nat.gcd top.natAbs low.natAbs : Int)) (low / (Nat.gcd top.natAbs low.natAbs : Int)) top low := by
  have g0 : 0 < Nat.gcd top.natAbs low.natAbs := Nat.gcd_pos_of_pos_right _ (by omega)
  generalize hg : Nat.gcd top.natAbs low.natAbs = g at g0
  have d1 : (g : Int) ∣ top := Int.natAbs_dvd_natAbs.mp (by rw [← hg]; exact Nat.gcd_dvd_left _ _)
  have d2 : (g : Int) ∣ low := Int.natAbs_dvd_natAbs.mp (by rw [← hg]; exact Nat.gcd_dvd_right _ _)
  obtain ⟨x, rfl⟩ := d1
  obtain ⟨y, rfl⟩ := d2
  have gn : (g : Int) ≠ 0 := by omega
  rw [Int.mul_ediv_cancel_left _ gn, Int.mul_ediv_cancel_left _ gn]
  refine ⟨?_, ?_, by grind⟩
  · rcases Int.lt_or_le 0 y with z | z
    · exact z
    · have := Int.mul_le_mul_of_nonneg_left z (show (0 : Int) ≤ g by omega)
      rw [Int.mul_zero] at this
      omega
  · rw [Int.natAbs_mul, Int.natAbs_mul, Nat.gcd_mul_left, Int.natAbs_natCast] at hg
    have h1 : g * Nat.gcd x.natAbs y.natAbs = g * 1 := by rw [hg, Nat.mul_one]
    exact Nat.eq_of_mul_eq_mul_left g0 h1
theorem lo_mul {a b N D n m x y : Int} (h : Lo a b N D) (g : Lo x y (a * n) (b * m)) : Lo x y (N * n) (D * m) := by
  refine ⟨g.1, g.2.1, ?_⟩
  have b0 := h.1
  have h1 := h.2.2
  have h2 := g.2.2
  have : (x * (D * m)) * b = (N * n * y) * b := by grind
  exact Int.eq_of_mul_eq_mul_right (by omega) this
theorem lo_add {a b N D c x y : Int} (h : Lo a b N D) (g : Lo x y (a * 1 + c * b) (b * 1)) : Lo x y (N + c * D) D := by
  refine ⟨g.1, g.2.1, ?_⟩
  have b0 := h.1
  have h1 := h.2.2
  have h2 := g.2.2
  have : (x * D) * b = ((N + c * D) * y) * b := by grind
  exact Int.eq_of_mul_eq_mul_right (by omega) this
theorem lo_le {a b N D : Int} (h : Lo a b N D) (d : 0 < D) : b ≤ D := by
  have := (lo_share h d).1
  have g0 : 0 < Nat.gcd N.natAbs D.natAbs := Nat.gcd_pos_of_pos_right _ (by omega)
  have b0 := h.1
  have := Int.mul_le_mul_of_nonneg_left (show (1 : Int) ≤ (Nat.gcd N.natAbs D.natAbs : Int) by omega) (show 0 ≤ b by omega)
  omega
theorem pow_le7 {m : Int} (m0 : 0 < m) (m1 : m ≤ 7) (k : Nat) : m ^ k ≤ 7 ^ k := by
  induction k with
  | zero => simp
  | succ k ih =>
    rw [Int.pow_succ, Int.pow_succ]
    exact Int.mul_le_mul ih m1 (by omega) (Int.le_of_lt (pow_pos' (by omega) k))
theorem pow_mono7 {k j : Nat} (h : k ≤ j) : (7 : Int) ^ k ≤ 7 ^ j := by
  have := Nat.pow_le_pow_right (n := 7) (by omega) h
  exact_mod_cast this
theorem max_lng {p : List (List Int)} {k : Int} (h1 : k ∈ (0 : Int) :: p.map (fun r => (r.length : Int))) (h2 : ∀ y ∈ (0 : Int) :: p.map (fun r => (r.length : Int)), y ≤ k) : k = (lng p : Int) := by
  have up : (lng p : Int) ≤ k := by
    clear h1
    induction p with
    | nil => exact h2 0 (by simp)
    | cons r p ih =>
      have a := ih fun y hy => h2 y (by
        rcases List.mem_cons.mp hy with hy | hy
        · simp [hy]
        · rw [List.map_cons]; exact List.mem_cons_of_mem _ (List.mem_cons_of_mem _ hy))
      have b := h2 r.length (by simp)
      rw [lng]
      omega
  rcases List.mem_cons.mp h1 with h | h
  · omega
  · obtain ⟨r, hr, rfl⟩ := List.mem_map.mp h
    have := lng_le hr
    omega
/-- the loop's step -/
theorem low_step {l Gn M : Nat} {a b N : Int} (m0 : 0 < M) (e : l * Gn = M) (h : Lo a b N (M : Int)) : (l * b.natAbs / Nat.gcd l b.natAbs) * Nat.gcd Gn N.natAbs = M := by
  have sh := (lo_share h (by omega)).1
  have e2 : b.natAbs * Nat.gcd N.natAbs M = M := by
    have := congrArg Int.natAbs sh
    rw [Int.natAbs_mul, Int.natAbs_natCast, Int.natAbs_natCast] at this
    exact this
  have := lcm_step m0 e e2
  have d : Gn ∣ M := ⟨l, by rw [← e, Nat.mul_comm]⟩
  have g : Nat.gcd Gn (Nat.gcd N.natAbs M) = Nat.gcd Gn N.natAbs := by
    rw [Nat.gcd_comm N.natAbs M, ← Nat.gcd_assoc, Nat.gcd_eq_left d]
  rw [g] at this
  exact this
theorem low_end {l Gn M : Nat} {a b N : Int} (m0 : 0 < M) (e : l * Gn = M) (d : Gn ∣ N.natAbs) (h : Lo a b N (M : Int)) : a * ((l : Int) / b) = N / (Gn : Int) := by
  obtain ⟨s1, s2⟩ := lo_share h (by omega)
  have g1 : Gn ∣ M := ⟨l, by rw [← e, Nat.mul_comm]⟩
  have g0 : 0 < Gn := Nat.pos_of_dvd_of_pos g1 m0
  have g2 : Gn ∣ Nat.gcd N.natAbs M := Nat.dvd_gcd d g1
  rw [Int.natAbs_natCast] at s1 s2
  obtain ⟨k, hk⟩ := g2
  rw [hk] at s1 s2
  have b0 := h.1
  have gi : (Gn : Int) ≠ 0 := by omega
  have el : (l : Int) = b * k := by
    have : (l : Int) * Gn = (b * k) * Gn := by
      rw [show (l : Int) * Gn = ((l * Gn : Nat) : Int) from by simp, e, ← s1]
      rw [Int.natCast_mul]
      grind
    exact Int.eq_of_mul_eq_mul_right gi this
  rw [el, Int.mul_ediv_cancel_left _ (by omega), ← s2, Int.natCast_mul]
  rw [show a * ((Gn : Int) * (k : Int)) = (Gn : Int) * (a * k) from by grind, Int.mul_ediv_cancel_left _ gi]
theorem mm_pos {m : Int} (h : 0 < m) (k : Nat) : 0 < mm m k := Nat.pow_pos (by omega)
theorem mm_le {m : Int} (h : m.natAbs ≤ 7) {k : Nat} (hk : k ≤ 7) : mm m k ≤ 823543 := by
  have : mm m k ≤ 7 ^ 7 := Nat.le_trans (Nat.pow_le_pow_left h k) (Nat.pow_le_pow_right (by omega) hk)
  exact this
theorem G_take {n m : Int} {p : List (List Int)} {M i : Nat} {r : List Int} (h : p[i]? = some r) : G M ((nums n m p).take (i + 1)) = Nat.gcd (G M ((nums n m p).take i)) (numAt n m (lng p) r).natAbs := by
  have e : (nums n m p)[i]? = some (numAt n m (lng p) r) := by unfold nums; rw [List.getElem?_map, h]; rfl
  rw [List.take_add_one, e]
  exact G_append _ _ _
theorem G_split : ∀ (l k : List Int) (M : Nat), G M (l ++ k) = G (G M l) k
  | [], k, M => rfl
  | x :: l, k, M => G_split l k _
theorem G_early {l : List Int} {i : Nat} (h : G 0 (l.take i) = 1) : G 0 l = 1 := by
  have e : l = l.take i ++ l.drop i := (List.take_append_drop i l).symm
  rw [e, G_split, h]
  exact G_one _
theorem max_fold : ∀ (p : List (List Int)) (a : Int), 0 ≤ a → (p.map fun r => ((r.length : Nat) : Int)).foldl max a = max a (lng p : Int)
  | [], a, h => by
    show a = max a (((0 : Nat)) : Int)
    omega
  | r :: p, a, h => by
    rw [List.map_cons, List.foldl_cons, max_fold p _ (by omega), lng]
    omega
end K27

set_option Elab.async false
set_option linter.all false
set_option maxRecDepth 100000
set_option maxHeartbeats 4000000
local macro_rules | `(tactic| walk_at "rd") => `(tactic| dsimp only [L2.tSeq, L2.tNext, L2.tRet, L2.tRetN, L2.tAsg, L2.gName, L2.tIfS, L2.tDrop, L2.tCons, L2.tNil, L2.tC, L2.tVar, L2.tCB, L2.tAndV, L2.tOrV, L2.tNotV, L2.tB, L2.tTest, L2.tOp, L2.tUn, L2.tNot, L2.tAnd, L2.tOr, L2.tIf, L2.tCall, L2.tTup, L2.tLst, L2.tNotT, L2.tYes])
namespace K27
open PySem PySem.Spec PyProof.Rows L2 Tw
def top (i : Nat) : Stmt := PySem.Challenge.pw_twoletters_k27_discriminants_of_degrees.main.body.getD i (.Pass ⟨0, 0, 0, 0⟩)
abbrev sWhole : Stmt := top 1
abbrev sPower : Stmt := top 2
abbrev sTrimmed : Stmt := top 4
abbrev sPRScaled : Stmt := top 5
abbrev sPacked : Stmt := top 6
abbrev sUnpacked : Stmt := top 7
abbrev sRQuot : Stmt := top 8
abbrev sFRest : Stmt := top 10
abbrev sOwnH : Stmt := top 11
abbrev sSubres : Stmt := top 12
abbrev sWRes : Stmt := top 13
abbrev sSizes : Stmt := top 14
abbrev sBitsFor : Stmt := top 15
abbrev sPackedP : Stmt := top 16
abbrev sPRes : Stmt := top 17
abbrev sPDer : Stmt := top 22
abbrev sPDisc : Stmt := top 23
abbrev sRow : Stmt := top 25
abbrev sPoly : Stmt := top 27
abbrev sDisc : Stmt := top 28
abbrev sWell : Stmt := top 30
abbrev sDraw : Stmt := top 31
abbrev sPick : Stmt := top 32
abbrev sTrim : Stmt := top 33
abbrev sLScaled : Stmt := top 34
abbrev sRSum : Stmt := top 35
abbrev sRLess : Stmt := top 36
abbrev sRTimes : Stmt := top 37
abbrev sPTimes : Stmt := top 38
abbrev sNum : Stmt := top 39
abbrev sLRow : Stmt := top 40
abbrev sAll : Stmt := top 41
abbrev sForm : Stmt := top 42
abbrev sRight : Stmt := top 43
abbrev sLaw : Stmt := top 44
/-- built-in names that the text gives no other meaning -/
structure Nb (mg : Str → Option Value) : Prop where
  isi : mg "isinstance" = none
  int : mg "int" = none
  bool : mg "bool" = none
  tup : mg "tuple" = none
  all : mg "all" = none
  len : mg "len" = none
  lst : mg "list" = none
  dvm : mg "divmod" = none
  rng : mg "range" = none
  max : mg "max" = none
  min : mg "min" = none
  abs : mg "abs" = none
  repr : mg "repr" = none
  rev : mg "reversed" = none
  sum : mg "sum" = none
  zip : mg "zip" = none
  any : mg "any" = none
  enm : mg "enumerate" = none

/-! ### what the answers are -/
def wholeB (d : PyData) : Bool := isIntD d && !isBoolD d
def lastD (ds : List PyData) (d : PyData) : Bool := match ds.getLast? with
  | some e => !(PyData.eqv e d)
  | none => true
def rowB : PyData → Bool
  | .tuple ds => (ds.map wholeB).all id && lastD ds (.int 0)
  | _ => false
def polyB : PyData → Bool
  | .tuple ds => (ds.map rowB).all id && lastD ds (.tuple [])
  | _ => false
/-- the answer is f of the datum -/
def spB (f : PyData → Bool) : Sp := fun vs H Q _ => ∃ a v d m, vs = [v] ∧ Da a H v d ∧ Sm m 1000 d ∧ ∀ H', Same H H' → Q (.bl (f d)) H'

theorem getLast_get {α : Type} {xs : List α} {x : α} (h : xs.getLast? = some x) : xs[xs.length - 1]? = some x := by
  rw [← List.getLast?_eq_getElem?]; exact h
theorem atI_end {α : Type} {xs : List α} {x : α} (h : xs.getLast? = some x) : atI xs (-1) = some x := by
  obtain ⟨ys, rfl⟩ := List.getLast?_eq_some_iff.mp h
  exact atI_last _ _
theorem last_both {a : Addr} {H : Hp} {xs : List V} {ds : List PyData} (h : DaAll a H xs ds) (ne : ds ≠ []) : ∃ x d, xs.getLast? = some x ∧ ds.getLast? = some d ∧ d ∈ ds ∧ Da a H x d := by
  have l := h.len
  have hp : 0 < ds.length := List.length_pos_iff.mpr ne
  have hx : xs.length - 1 < xs.length := by omega
  obtain ⟨d, e1, e2⟩ := h.get (List.getElem?_eq_getElem hx)
  refine ⟨xs[xs.length - 1], d, ?_, ?_, List.mem_of_getElem? e1, e2⟩
  · rw [List.getLast?_eq_getElem?]; exact List.getElem?_eq_getElem hx
  · rw [List.getLast?_eq_getElem?, ← l]; exact e1
section
variable {P : Program} {w : World} {K : PySem.W.Frag} {mg : Str → Option Value} {base : Heap}
theorem scWhole : FnScope ["value"] ["value"] (defScope sWhole) := ⟨rfl, rfl, rfl, by decide +kernel, rfl, by decide +kernel, by decide +kernel⟩
theorem ok_whole (D : Def K mg "is_whole" sWhole ["value"]) (nb : Nb mg) : Cal P w K mg base "is_whole" 1 ["value"] (spB wholeB) := by
  refine D.ok scWhole (fun vs H Q E h => ?_) (fun f cdv A out s H vs Q E hr h => ?_)
  · obtain ⟨a, v, d, m, rfl, _⟩ := h; rfl
  obtain ⟨a, v, d, m, rfl, hd, hs, q⟩ := h
  refine ⟨_, pss_one (ps_ret (pe_and (pe_callB (id := "isinstance") (r := rIsi K) call_isi (by rfl) nb.isi (by decide +kernel) (pa_cons (pv 0) (pa_cons (pe_bltn (v := .ty "int") (by rfl) nb.int (by decide +kernel) rfl) pa_nil)))
    (pe_one (pe_not (pe_callB (id := "isinstance") (r := rIsi K) call_isi (by rfl) nb.isi (by decide +kernel) (pa_cons (pv 0) (pa_cons (pe_bltn (v := .ty "bool") (by rfl) nb.bool (by decide +kernel) rfl) pa_nil))))))), ?_⟩
  walk_at "rd"
  refine ⟨v, rfl, isi hd (isi_int d) ⟨isIntD d, rfl, ?_⟩⟩
  have q' := q H (Same.refl H)
  unfold wholeB at q'
  cases hi : isIntD d with
  | false => rw [hi] at q'; exact iteF q'
  | true =>
    rw [hi] at q'
    refine iteT ⟨v, rfl, isi hd (isi_bool d) ⟨isBoolD d, rfl, q'⟩⟩

theorem tup_of {a : Addr} {H : Hp} {v : V} {d : PyData} (h : Da a H v d) (t : isTupD d = true) : ∃ p xs ds, v = .ref p ∧ d = .tuple ds ∧ p ≠ a ∧ H p = some (.tup xs) ∧ DaAll a H xs ds := by
  cases h with
  | tup n e r => exact ⟨_, _, _, rfl, rfl, n, e, r⟩
  | _ => exact absurd t (by simp [isTupD])
theorem int_of {a : Addr} {H : Hp} {v : V} {d : PyData} (h : Da a H v d) (t : wholeB d = true) : ∃ i, v = .int i ∧ d = .int i := by
  cases h with
  | int i => exact ⟨i, rfl, rfl⟩
  | _ => exact absurd t (by simp [wholeB, isIntD, isBoolD])
theorem not_tup {d : PyData} (h : isTupD d = false) : rowB d = false ∧ polyB d = false := by
  cases d <;> first | exact ⟨rfl, rfl⟩ | cases h
theorem row_tup {d : PyData} (h : rowB d = true) : isTupD d = true := by
  cases d <;> first | rfl | cases h
theorem all_mem {f : PyData → Bool} {ds : List PyData} {d : PyData} (h : (ds.map f).all id = true) (m : d ∈ ds) : f d = true := by
  rw [List.all_eq_true] at h
  exact h (f d) (List.mem_map_of_mem m)
theorem empty_iff {a : Addr} {H : Hp} {xs : List V} {ds : List PyData} (h : DaAll a H xs ds) : xs.isEmpty = ds.isEmpty := by
  cases h <;> rfl
theorem wipe1 (σ : L2.St) (j : Nat) (x : V) : wipe ((wipe σ [j]).set j (some x)) [j] = wipe σ [j] := by
  show ((σ.set j none).set j (some x)).set j none = σ.set j none
  rw [List.set_set, List.set_set]

theorem scRow : FnScope ["value", "number"] ["value"] (defScope sRow) := ⟨rfl, rfl, rfl, by decide +kernel, rfl, by decide +kernel, by decide +kernel⟩
theorem ok_row (D : Def K mg "is_row" sRow ["value"]) (nb : Nb mg) (c1 : Cal P w K mg base "is_whole" 1 ["value"] (spB wholeB)) : Cal P w K mg base "is_row" 2 ["value"] (spB rowB) := by
  refine D.ok scRow (fun vs H Q E h => ?_) (fun f cdv A out s H vs Q E hr h => ?_)
  · obtain ⟨a, v, d, m, rfl, _⟩ := h; rfl
  obtain ⟨a, v, d, m, rfl, hd, hs, q⟩ := h
  refine ⟨_, pss_cons (ps_if (PW.pt (pw_or (pt_not (pt_val (pe_callB (id := "isinstance") (r := rIsi K) call_isi (by rfl) nb.isi (by decide +kernel) (pa_cons (pv 0) (pa_cons (pe_bltn (v := .ty "tuple") (by rfl) nb.tup (by decide +kernel) rfl) pa_nil)))))
      (pw_or1 (pt_not (pt_val (pe_callB (cr_all rfl) (by rfl) nb.all (by decide +kernel) (pa_cons
        (pe_lc (own := [("number", 1)]) (g := gName 1) (tt := tYes) rfl scRow.nd (pi_tup (pv 0)) (blkOk_by (N := ["value", "number"]) (sc := defScope sRow) (by decide +kernel))
          (fun _ _ _ _ _ => pg_name (i := 1) scRow.nd rfl (Or.inl rfl)) (fun _ _ _ _ _ => pts_nil) (fun _ _ _ _ _ => pe_cal c1 hr (Nat.le_refl 1) (by rfl) (pa_cons (pv 1) pa_nil))) pa_nil)))))))
      (pss_one (ps_ret pe_bl)) pss_nil)
    (pss_one (ps_ret (pe_or (pe_notT (pv 0)) (pe_one (pe_cmpR op_ne (pe_ix ix_tup (pv 0) (pe_un un_neg pe_int) (fun _ _ => rfl)) pe_int (nomark _)))))), ?_⟩
  walk_at "rd"
  refine ⟨v, rfl, isi hd (isi_tup d) ⟨isTupD d, rfl, ?_⟩⟩
  cases ht : isTupD d with
  | false =>
    have q' := q H (Same.refl H)
    rw [(not_tup ht).1] at q'
    exact iteT (iteT q')
  | true =>
    obtain ⟨p, xs, ds, rfl, rfl, np, hp, hx⟩ := tup_of hd ht
    have hn : xs.length < 100000 := by rw [hx.len]; have := hs.len; omega
    refine iteF (lc_mapT (fun d => V.bl (wholeB d)) rfl hp hx hn (wipe1 _ 1) (fun x d H1 hm s1 dx R k => ?_) fun L H1 s1 nL hL => ?_)
    · exact ⟨x, rfl, a, x, d, _, rfl, dx, hs.mem hm, k⟩
    refine ⟨L, ds.map wholeB, rfl, SqL.of (by rw [List.map_map]; exact hL), _, rfl, ?_⟩
    have q' : Q (.bl ((ds.map wholeB).all id && lastD ds (.int 0))) H1 := q H1 s1
    cases hw : (ds.map wholeB).all id with
    | false => rw [hw] at q'; exact iteT q'
    | true =>
      rw [hw] at q'
      refine iteF ⟨.ref p, rfl, _, .inr (.inl ⟨xs, SqT.of (s1 _ _ hp), rfl⟩), _, rfl, ?_⟩
      rw [empty_iff hx, Bool.not_not]
      cases hds : ds with
      | nil => subst hds; exact iteT q'
      | cons d0 dr =>
        have ne : ds ≠ [] := by rw [hds]; simp
        obtain ⟨x, dl, e1, e2, e3, e4⟩ := last_both hx ne
        obtain ⟨i, rfl, rfl⟩ := int_of e4 (all_mem hw e3)
        refine iteF ⟨.ref p, rfl, 1, rfl, p, xs, -1, .int i, rfl, rfl, SqT.of (s1 _ _ hp), atI_end e1, rfl, ?_⟩
        unfold lastD at q'
        rw [e2] at q'
        rw [dec_int]
        simpa [PyData.eqv] using q'

/-- not value or value[-1] != 0, both ways of saying it: what is asked of the last number -/
theorem end_int {a p : Addr} {H : Hp} {Q : VK} {xs : List V} {ds : List PyData} (hx : DaAll a H xs ds) (hp : H p = some (.tup xs)) (ne : ds ≠ []) (hw : (ds.map wholeB).all id = true)
    (q : Q (.bl (lastD ds (.int 0))) H) : rIxT K (.ref p) (.int (-1)) H fun x H1 => rNe x (.int 0) H1 Q := by
  obtain ⟨x, dl, e1, e2, e3, e4⟩ := last_both hx ne
  obtain ⟨i, rfl, rfl⟩ := int_of e4 (all_mem hw e3)
  refine ⟨p, xs, -1, .int i, rfl, rfl, SqT.of hp, atI_end e1, rfl, ?_⟩
  unfold lastD at q
  rw [e2] at q
  rw [dec_int]
  simpa [PyData.eqv] using q

/-- .. of the last row -/
theorem end_row {a p : Addr} {H : Hp} {Q : VK} {xs : List V} {ds : List PyData} (hx : DaAll a H xs ds) (hp : H p = some (.tup xs)) (ne : ds ≠ []) (hw : (ds.map rowB).all id = true)
    (q : ∀ H', Same H H' → Q (.bl (lastD ds (.tuple []))) H') :
    rIxT K (.ref p) (.int (-1)) H fun x H1 => ([] : List V).length ≤ sizeLine ∧ ∀ t, H1 t = none → rT0 true K x (.ref t) (upd H1 t (.tup [])) Q := by
  obtain ⟨x, dl, e1, e2, e3, e4⟩ := last_both hx ne
  obtain ⟨p2, xs2, ds2, rfl, rfl, np2, hp2, hx2⟩ := tup_of e4 (row_tup (all_mem hw e3))
  refine ⟨p, xs, -1, .ref p2, rfl, rfl, SqT.of hp, atI_end e1, sz (by decide), fun t nt => ?_⟩
  have s2 := same_new (o := .tup []) nt
  refine ⟨p2, t, xs2, [], rfl, rfl, SqT.of (s2 _ _ hp2), SqT.of upd_same, rfl, ?_⟩
  have q' := q _ s2
  unfold lastD at q'
  rw [e2] at q'
  cases hx2 with
  | nil => simpa [PyData.eqv, PyData.eqvAll] using q'
  | cons _ _ => simpa [PyData.eqv, PyData.eqvAll] using q'
theorem scPoly : FnScope ["value", "row"] ["value"] (defScope sPoly) := ⟨rfl, rfl, rfl, by decide +kernel, rfl, by decide +kernel, by decide +kernel⟩
theorem ok_poly (D : Def K mg "is_poly" sPoly ["value"]) (nb : Nb mg) (c1 : Cal P w K mg base "is_row" 2 ["value"] (spB rowB)) : Cal P w K mg base "is_poly" 3 ["value"] (spB polyB) := by
  refine D.ok scPoly (fun vs H Q E h => ?_) (fun f cdv A out s H vs Q E hr h => ?_)
  · obtain ⟨a, v, d, m, rfl, _⟩ := h; rfl
  obtain ⟨a, v, d, m, rfl, hd, hs, q⟩ := h
  refine ⟨_, pss_cons (ps_if (PW.pt (pw_or (pt_not (pt_val (pe_callB (id := "isinstance") (r := rIsi K) call_isi (by rfl) nb.isi (by decide +kernel) (pa_cons (pv 0) (pa_cons (pe_bltn (v := .ty "tuple") (by rfl) nb.tup (by decide +kernel) rfl) pa_nil)))))
      (pw_or1 (pt_not (pt_val (pe_callB (cr_all rfl) (by rfl) nb.all (by decide +kernel) (pa_cons
        (pe_lc (own := [("row", 1)]) (g := gName 1) (tt := tYes) rfl scPoly.nd (pi_tup (pv 0)) (blkOk_by (N := ["value", "row"]) (sc := defScope sPoly) (by decide +kernel))
          (fun _ _ _ _ _ => pg_name (i := 1) scPoly.nd rfl (Or.inl rfl)) (fun _ _ _ _ _ => pts_nil) (fun _ _ _ _ _ => pe_cal c1 hr (Nat.le_refl 2) (by rfl) (pa_cons (pv 1) pa_nil))) pa_nil)))))))
      (pss_one (ps_ret pe_bl)) pss_nil)
    (pss_one (ps_ret (pe_or (pe_notT (pv 0)) (pe_one (pe_cmpR (op_neT0 hr.units) (pe_ix ix_tup (pv 0) (pe_un un_neg pe_int) (fun _ _ => rfl)) (pe_tup pa_nil) (nomark _)))))), ?_⟩
  walk_at "rd"
  refine ⟨v, rfl, isi hd (isi_tup d) ⟨isTupD d, rfl, ?_⟩⟩
  cases ht : isTupD d with
  | false =>
    have q' := q H (Same.refl H)
    rw [(not_tup ht).2] at q'
    exact iteT (iteT q')
  | true =>
    obtain ⟨p, xs, ds, rfl, rfl, np, hp, hx⟩ := tup_of hd ht
    have hn : xs.length < 100000 := by rw [hx.len]; have := hs.len; omega
    refine iteF (lc_mapT (fun d => V.bl (rowB d)) rfl hp hx hn (wipe1 _ 1) (fun x d H1 hm s1 dx R k => ?_) fun L H1 s1 nL hL => ?_)
    · exact ⟨x, rfl, a, x, d, _, rfl, dx, hs.mem hm, k⟩
    refine ⟨L, ds.map rowB, rfl, SqL.of (by rw [List.map_map]; exact hL), _, rfl, ?_⟩
    have q' : ∀ H', Same H H' → Q (.bl ((ds.map rowB).all id && lastD ds (.tuple []))) H' := q
    cases hw : (ds.map rowB).all id with
    | false => rw [hw] at q'; exact iteT (q' _ s1)
    | true =>
      rw [hw] at q'
      refine iteF ⟨.ref p, rfl, _, .inr (.inl ⟨xs, SqT.of (s1 _ _ hp), rfl⟩), _, rfl, ?_⟩
      rw [empty_iff hx, Bool.not_not]
      cases hds : ds with
      | nil => subst hds; exact iteT (q' _ s1)
      | cons d0 dr =>
        have ne : ds ≠ [] := by rw [hds]; simp
        exact iteF ⟨.ref p, rfl, 1, rfl, end_row (hx.same s1) (s1 _ _ hp) ne hw fun H' s2 => q' _ (s1.trans s2)⟩
end
end K27

set_option Elab.async false
set_option linter.all false
set_option maxRecDepth 100000
set_option maxHeartbeats 4000000
local macro_rules | `(tactic| walk_at "rd") => `(tactic| dsimp only [L2.tSeq, L2.tNext, L2.tRet, L2.tRetN, L2.tAsg, L2.gName, L2.tIfS, L2.tDrop, L2.tCons, L2.tNil, L2.tC, L2.tVar, L2.tCB, L2.tAndV, L2.tOrV, L2.tNotV, L2.tB, L2.tTest, L2.tOp, L2.tUn, L2.tNot, L2.tAnd, L2.tOr, L2.tIf, L2.tCall, L2.tTup, L2.tLst, L2.tNotT, L2.tYes, L2.gTup, L2.gCons, L2.gNil, L2.gSub])
namespace K27
open PySem PySem.Spec PyProof.Rows L2 Tw
/-- an int from 0 on below n; the well is turned -/
def spDraw : Sp := fun vs H Q _ => ∃ a n, vs = [.ref a, .int n] ∧ We a H ∧ 0 < n ∧ n < 1073741824 ∧ ∀ d H', 0 ≤ d → d < n → Kp a H H' → We a H' → Q (.int d) H'
theorem kp_well {a : Addr} {H H' : Hp} {o : HO} (h : Kp a H H') : Kp a H (upd H' a o) := fun b u n e => by
  rw [upd_ne n]; exact h b u n e
section
variable {P : Program} {w : World} {K : PySem.W.Frag} {mg : Str → Option Value} {base : Heap}
theorem scDraw : FnScope ["_law_well_here", "_law_many", "_law_figure", "_law_seed"] ["_law_well_here", "_law_many"] (defScope sDraw) := ⟨rfl, rfl, rfl, by decide +kernel, rfl, by decide +kernel, by decide +kernel⟩
theorem ok_draw (D : Def K mg "_law_draw" sDraw ["_law_well_here", "_law_many"]) (nb : Nb mg) : Cal P w K mg base "_law_draw" 1 ["_law_well_here", "_law_many"] spDraw := by
  refine D.ok scDraw (fun vs H Q E h => ?_) (fun f cdv A out s H vs Q E hr h => ?_)
  · obtain ⟨a, n, rfl, _⟩ := h; rfl
  obtain ⟨a, n, rfl, ⟨x, y, z, hw⟩, n0, n1, q⟩ := h
  refine ⟨_, pss_cons (ps_if (pt_cmpR op_gt (pe_ix ix_list (pv 0) pe_int (fun _ _ => rfl)) pe_int (nomark _))
      (pss_cons (ps_asg (pe_callB (id := "divmod") call_divmod (by rfl) nb.dvm (by decide +kernel) (pa_cons (pe_ix ix_list (pv 0) pe_int (fun _ _ => rfl)) (pa_cons (pv 1) pa_nil)))
          (pg_tup rfl (pgs_cons (pg_sub (pv 0) pe_int set_list) (pgs_cons (pg_name (i := 2) scDraw.nd rfl (Or.inl rfl)) pgs_nil))))
        (pss_one (ps_ret (pv 2)))) pss_nil)
    (pss_cons (ps_asg (pe_op op_add (pe_ix ix_list (pv 0) pe_int (fun _ _ => rfl)) pe_int) (pg_sub (pv 0) pe_int set_list))
    (pss_cons (ps_set (i := 3) scDraw.nd rfl (Or.inl rfl) (pe_op op_mod (pe_callTy (T := "int") call_int1 (by rfl) nb.int (by decide +kernel)
        (pa_cons (pe_op op_add (pe_ix ix_list (pv 0) pe_int (fun _ _ => rfl)) (pe_op op_mul pe_int (pe_ix ix_list (pv 0) pe_int (fun _ _ => rfl)))) pa_nil)) pe_int))
    (pss_cons (ps_asg (pe_op op_mod (pe_callTy (T := "int") call_int1 (by rfl) nb.int (by decide +kernel)
        (pa_cons (pe_op op_add (pe_op op_mul (pv 3) (pe_op op_add (pe_op op_mod (pe_callTy (T := "int") call_int1 (by rfl) nb.int (by decide +kernel) (pa_cons (pv 3) pa_nil)) pe_int) pe_int))
          (pe_op op_mul pe_int (pe_ix ix_list (pv 0) pe_int (fun _ _ => rfl)))) pa_nil)) pe_int) (pg_sub (pv 0) pe_int set_list))
    (pss_one (ps_ret (pe_op op_mod (pe_callTy (T := "int") call_int1 (by rfl) nb.int (by decide +kernel) (pa_cons (pe_op op_fdiv (pe_ix ix_list (pv 0) pe_int (fun _ _ => rfl)) pe_int) pa_nil)) (pv 1))))))), ?_⟩
  walk_at "rd"
  refine ⟨.ref a, rfl, a, _, 0, .int x, rfl, rfl, SqL.of hw, rfl, x, 0, rfl, rfl, _, rfl, ite2 (fun c => ?_) (fun c => ?_)⟩
  · refine ⟨.ref a, rfl, a, _, 0, .int x, rfl, rfl, SqL.of hw, rfl, .int n, rfl, x, n, rfl, ⟨n0, n1⟩, fun t nt => ?_⟩
    have ta : t ≠ a := (show We a H from ⟨x, y, z, hw⟩).ne nt
    have h1 : upd H t (.tup [.int (x / n), .int (x % n)]) a = some (.lst [.int x, .int y, .int z]) := by rw [upd_ne ta.symm]; exact hw
    refine ⟨t, _, rfl, SqT.of upd_same, rfl, .int (x / n), _, rfl, .ref a, rfl, a, _, 0, 0, rfl, rfl, h1, rfl, .int (x % n), _, rfl, ⟨rfl, .int (x % n), rfl, ?_⟩⟩
    refine q _ _ (Int.emod_nonneg _ (by omega)) (Int.emod_lt_of_pos _ n0) (kp_well (kp_new nt)) ⟨x / n, y, z, upd_same⟩
  · refine ⟨.ref a, rfl, a, _, 2, .int z, rfl, rfl, SqL.of hw, rfl, z, 1, rfl, rfl, .ref a, rfl, a, _, 2, 2, rfl, rfl, hw, rfl, ?_⟩
    generalize hH1 : upd H a _ = H1
    have w1 : H1 a = some (.lst [.int x, .int y, .int (z + 1)]) := by rw [← hH1]; exact upd_same
    have k1 : Kp a H H1 := by rw [← hH1]; exact kp_well (Kp.refl a H)
    refine ⟨.ref a, rfl, a, _, 1, .int y, rfl, rfl, SqL.of w1, rfl, .ref a, rfl, a, _, 2, .int (z + 1), rfl, rfl, SqL.of w1, rfl, _, _, rfl, rfl, .inl ⟨by decide, by decide⟩, _, _, rfl, rfl, .inl ⟨_, rfl, _, _, rfl, rfl, (by show (0 : Int) < _; decide), ?_⟩⟩
    walk_at "rd"
    generalize hs : (_ : Int) % 2147483563 = sd
    have s0 : 0 ≤ sd := by rw [← hs]; exact Int.emod_nonneg _ (by decide)
    have s1 : sd < 2147483563 := by rw [← hs]; exact Int.emod_lt_of_pos _ (by decide)
    refine ⟨.int sd, rfl, .int sd, rfl, .inl ⟨sd, rfl, _, _, rfl, rfl, (by show (0 : Int) < _; decide), _, _, rfl, rfl, _, _, rfl, rfl, .inl ⟨by omega, by omega⟩, .ref a, rfl, a, _, 2, .int (z + 1), rfl, rfl, SqL.of w1, rfl, _, _, rfl, rfl, .inl ⟨by decide, by decide⟩, _, _, rfl, rfl, .inl ⟨_, rfl, _, _, rfl, rfl, (by show (0 : Int) < _; decide), ?_⟩⟩⟩
    walk_at "rd"
    refine ⟨.ref a, rfl, a, _, 1, 1, rfl, rfl, w1, rfl, ?_⟩
    generalize hy : (_ : Int) % 2147483563 = y2
    generalize hH2 : upd H1 a _ = H2
    have w2 : H2 a = some (.lst [.int x, .int y2, .int (z + 1)]) := by rw [← hH2]; exact upd_same
    have k2 : Kp a H H2 := by rw [← hH2]; exact kp_well k1
    refine ⟨.ref a, rfl, a, _, 1, .int y2, rfl, rfl, SqL.of w2, rfl, _, _, rfl, rfl, ⟨by decide, by decide⟩, .inl ⟨_, rfl, .int n, rfl, _, _, rfl, rfl, n0, ?_⟩⟩
    exact q _ _ (Int.emod_nonneg _ (by omega)) (Int.emod_lt_of_pos _ n0) k2 ⟨x, y2, z + 1, w2⟩

end
end K27

set_option Elab.async false
set_option linter.all false
set_option maxRecDepth 100000
set_option maxHeartbeats 4000000
local macro_rules | `(tactic| walk_at "rd") => `(tactic| dsimp only [L2.tSeq, L2.tNext, L2.tRet, L2.tRetN, L2.tAsg, L2.gName, L2.tIfS, L2.tDrop, L2.tCons, L2.tNil, L2.tC, L2.tVar, L2.tCB, L2.tAndV, L2.tOrV, L2.tNotV, L2.tB, L2.tTest, L2.tOp, L2.tUn, L2.tNot, L2.tAnd, L2.tOr, L2.tIf, L2.tCall, L2.tTup, L2.tLst, L2.tNotT, L2.tYes, L2.gTup, L2.gCons, L2.gNil, L2.gSub, L2.tBM0, L2.tBM, L2.tWhile, L2.tFor, L2.iRng1])
namespace K27
open PySem PySem.Spec PyProof.Rows L2 Tw
/-- data that may be compared, at most n deep -/
def Nice (n : Nat) (d : PyData) : Prop := d.canLay0 = true ∧ d.depth ≤ n
theorem canAll {ds : List PyData} (h : ∀ d ∈ ds, d.canLay0 = true) : PyData.canLayAll0 ds = true := by
  induction ds with
  | nil => simp [PyData.canLayAll0]
  | cons d ds ih => simp only [PyData.canLayAll0, h d (by simp), ih fun e he => h e (by simp [he]), Bool.and_self]
theorem depAll {n : Nat} {ds : List PyData} (h : ∀ d ∈ ds, d.depth ≤ n) : PyData.depthAll ds ≤ n := by
  induction ds with
  | nil => simp [PyData.depthAll]
  | cons d ds ih =>
    simp only [PyData.depthAll]
    exact Nat.max_le.mpr ⟨h d (by simp), ih fun e he => h e (by simp [he])⟩
theorem nice_tup {n : Nat} {ds : List PyData} (h : ∀ d ∈ ds, Nice n d) : Nice (n + 1) (.tuple ds) :=
  ⟨by simp only [PyData.canLay0]; exact canAll fun d hd => (h d hd).1, by simp only [PyData.depth]; exact Nat.succ_le_succ (depAll fun d hd => (h d hd).2)⟩
theorem nice_lst {n : Nat} {ds : List PyData} (h : ∀ d ∈ ds, Nice n d) : Nice (n + 1) (.list ds) :=
  ⟨by simp only [PyData.canLay0]; exact canAll fun d hd => (h d hd).1, by simp only [PyData.depth]; exact Nat.succ_le_succ (depAll fun d hd => (h d hd).2)⟩
theorem nice_int (i : Int) : Nice 0 (.int i) := ⟨by simp [PyData.canLay0], by simp [PyData.depth]⟩
theorem Nice.up {n m : Nat} {d : PyData} (h : Nice n d) (l : n ≤ m) : Nice m d := ⟨h.1, Nat.le_trans h.2 l⟩
theorem Nice.shaped {n : Nat} {d : PyData} (h : Nice n d) (l : n ≤ 64) : SeqAt.shaped d = true := by
  unfold SeqAt.shaped
  rw [h.1, decide_eq_true (Nat.le_trans h.2 l)]; rfl
/-- a first part of the list, as a tuple -/
def zD (d : PyData) : Bool := PyData.eqv d (.int 0) || PyData.eqv d (.tuple [])
def spTrim : Sp := fun vs H Q _ => ∃ a p xs ds, vs = [.ref p] ∧ H p = some (.lst xs) ∧ DaAll a H xs ds ∧ (∀ d ∈ ds, Nice 5 d) ∧
  ∀ (k : Nat) q H', k ≤ xs.length → (∀ (i : Nat) d, k ≤ i → ds[i]? = some d → zD d = true) → (k = 0 ∨ ∃ d, ds[k - 1]? = some d ∧ zD d = false) → Same H H' → H q = none → H' q = some (.tup (xs.take k)) → Q (.ref q) H'
section
variable {P : Program} {w : World} {K : PySem.W.Frag} {mg : Str → Option Value} {base : Heap}
theorem take_cases {xs : List V} {m : Nat} (h : m ≤ xs.length) : xs.take m = [] ∧ m = 0 ∨ ∃ j y, m = j + 1 ∧ xs[j]? = some y ∧ xs.take m = xs.take j ++ [y] := by
  cases m with
  | zero => exact .inl ⟨rfl, rfl⟩
  | succ j =>
    have hj : j < xs.length := by omega
    refine .inr ⟨j, xs[j], rfl, List.getElem?_eq_getElem hj, ?_⟩
    rw [List.take_add_one, List.getElem?_eq_getElem hj]; rfl
theorem scTrim : FnScope ["_law_some", "_law_made"] ["_law_some"] (defScope sTrim) := ⟨rfl, rfl, rfl, by decide +kernel, rfl, by decide +kernel, by decide +kernel⟩
theorem ok_trim (D : Def K mg "_law_trim" sTrim ["_law_some"]) (nb : Nb mg) : Cal P w K mg base "_law_trim" 1 ["_law_some"] spTrim := by
  refine D.ok scTrim (fun vs H Q E h => ?_) (fun f cdv A out s H vs Q E hr h => ?_)
  · obtain ⟨a, p, xs, ds, rfl, _⟩ := h; rfl
  obtain ⟨a, p, xs, ds, rfl, hp, hd, hn, q⟩ := h
  refine ⟨_, pss_cons (ps_set (i := 1) scTrim.nd rfl (Or.inl rfl) (pe_callTy (T := "list") call_list_of (by rfl) nb.lst (by decide +kernel) (pa_cons (pv 0) pa_nil)))
    (pss_cons (ps_while PassesOwn.never (PW.pt (pw_and (pt_cmpR (op_neD hr.units) (pv 1) (pe_lst pa_nil) (nomark _)) (pw_and1 (PW.pt (pw_or
        (pt_cmpR (op_eqD hr.units) (pe_ix ix_list (pv 1) (pe_un un_neg pe_int) (fun _ _ => rfl)) pe_int (nomark _))
        (pw_or1 (pt_cmpR (op_eqD hr.units) (pe_ix ix_list (pv 1) (pe_un un_neg pe_int) (fun _ _ => rfl)) (pe_tup pa_nil) (nomark _))))))))
      (pss_one (ps_expr (pe_bm0 PySem.F.plainAttrs_list PySem.F.slot_list_pop PySem.F.type_list_pop mt_pop (pv 1)))))
    (pss_one (ps_ret (pe_callTy (T := "tuple") call_tuple_of (by rfl) nb.tup (by decide +kernel) (pa_cons (pv 1) pa_nil))))), ?_⟩
  walk_at "rd"
  refine ⟨.ref p, rfl, p, xs, rfl, .inl (SqL.of hp), fun L nL => ?_⟩
  have go : ∀ (m : Nat) (H' : Hp), m ≤ xs.length → (∀ (i : Nat) d, m ≤ i → ds[i]? = some d → zD d = true) → (m = 0 ∨ ∃ d, ds[m - 1]? = some d ∧ zD d = false) → Same H H' → H' L = some (.lst (xs.take m)) → ∀ t, H' t = none → Q (.ref t) (upd H' t (.tup (xs.take m))) := fun m H' hm hz hb s1 hL t nt =>
    q m t _ hm hz hb (s1.trans (same_new nt)) (s1.free nt) upd_same
  have hz0 : ∀ (i : Nat) d, xs.length ≤ i → ds[i]? = some d → zD d = true := by
    intro i d hi e
    rw [hd.len] at hi
    rw [List.getElem?_eq_none hi] at e
    cases e
  refine ⟨fun m σ H' => m ≤ xs.length ∧ (∀ (i : Nat) d, m ≤ i → ds[i]? = some d → zD d = true) ∧ σ = [some (.ref p), some (.ref L)] ∧ Same H H' ∧ H' L = some (.lst (xs.take m)), ⟨xs.length, Nat.le_refl _, hz0, rfl, same_new nL, by rw [upd_same, List.take_length]⟩, ?_⟩
  rintro m σ H1 ⟨hm, hz, rfl, s1, hL⟩
  refine ⟨.ref L, rfl, sz (by decide), fun t nt => ?_⟩
  have s2 := same_new (o := .lst []) nt
  have dL : DaAll a H1 (xs.take m) (ds.take m) := (hd.same s1).take m
  have nA : ∀ d ∈ ds.take m, Nice 5 d := fun d h => hn d (List.mem_of_mem_take h)
  refine ⟨.list (ds.take m), .list [], .lst (SqL.of (s2 _ _ hL)) ((dL.same s2).dp (canAll fun d h => (nA d h).1)), .lst (SqL.of upd_same) .nil, (nice_lst nA).shaped (by decide), by decide, _, rfl, ?_⟩
  rcases take_cases hm with ⟨e0, rfl⟩ | ⟨j, y, rfl, ey, et⟩
  · have ed : ds.take 0 = [] := rfl
    rw [ed]
    refine iteF ?_
    refine ⟨.ref L, rfl, L, xs.take 0, rfl, .inl ⟨SqL.of (s2 _ _ hL), fun t2 nt2 => ?_⟩⟩
    exact go 0 _ hm hz (.inl rfl) (s1.trans s2) (s2 _ _ hL) t2 nt2
  · obtain ⟨d, e1, e2⟩ := hd.get ey
    have em : ds.take (j + 1) = ds.take j ++ [d] := by rw [List.take_add_one, e1]; rfl
    have ne : (!PyData.eqv (.list (ds.take (j + 1))) (.list [])) = true := by
      rw [em]
      cases ds.take j <;> simp [PyData.eqv, PyData.eqvAll]
    rw [ne]
    have nd : Nice 5 d := hn d (List.mem_of_getElem? e1)
    have at1 : atI (xs.take (j + 1)) (-1) = some y := by rw [et]; exact atI_last _ _
    have pop : ∀ H2 : Hp, zD d = true → Same H1 H2 → ∃ N : L2.St → Hp → Prop, (∀ σ' H', N σ' H' → ∃ m', m' < j + 1 ∧ m' ≤ xs.length ∧ (∀ (i : Nat) d, m' ≤ i → ds[i]? = some d → zD d = true) ∧ σ' = [some (.ref p), some (.ref L)] ∧ Same H H' ∧ H' L = some (.lst (xs.take m'))) ∧
        ∃ v, [some (V.ref p), some (V.ref L)][1]? = some (some v) ∧ tyV K "list" v H2 ∧ rPop v [] H2 fun _ H3 => N [some (.ref p), some (.ref L)] H3 := fun H2 zd s3 => by
      refine ⟨fun σ' H' => σ' = [some (.ref p), some (.ref L)] ∧ Same H H' ∧ H' L = some (.lst (xs.take j)), fun σ' H' h => ⟨j, by omega, by omega, fun i e hi he => by
        rcases Nat.lt_or_eq_of_le hi with z | z
        · exact hz i e z he
        · subst z; rw [e1] at he; cases he; exact zd, h.1, h.2.1, h.2.2⟩, .ref L, rfl, .inl ⟨rfl, _, SqL.of (s3 _ _ hL)⟩, ?_⟩
      refine ⟨L, xs.take (j + 1), y, rfl, rfl, s3 _ _ hL, ?_, rfl, same_upd (s1.trans s3) nL, ?_⟩
      · exact getLast_get (by rw [et]; simp)
      · rw [upd_same, et, List.dropLast_concat]
    refine iteT ⟨.ref L, rfl, 1, rfl, L, xs.take (j + 1), -1, y, rfl, rfl, SqL.of (s2 _ _ hL), at1, d, .int 0, (e2.same (s1.trans s2)).dp nd.1, .int 0, nd.shaped (by decide), by decide, _, rfl, ?_⟩
    cases c1 : PyData.eqv d (.int 0) with
    | true => exact iteT (iteT (pop _ (by unfold zD; rw [c1]; rfl) s2))
    | false =>
      refine iteF ⟨.ref L, rfl, 1, rfl, L, xs.take (j + 1), -1, y, rfl, rfl, SqL.of (s2 _ _ hL), at1, sz (by decide), fun t3 nt3 => ?_⟩
      have s3 := s2.trans (same_new (o := .tup []) nt3)
      refine ⟨d, .tuple [], (e2.same (s1.trans s3)).dp nd.1, .tup (SqT.of upd_same) .nil, nd.shaped (by decide), by decide, _, rfl, ?_⟩
      cases c2 : PyData.eqv d (.tuple []) with
      | true => exact iteT (pop _ (by unfold zD; rw [c1, c2]; rfl) s3)
      | false =>
        refine iteF ⟨.ref L, rfl, L, xs.take (j + 1), rfl, .inl ⟨SqL.of (s3 _ _ hL), fun t2 nt2 => ?_⟩⟩
        exact go (j + 1) _ hm hz (.inr ⟨d, e1, by unfold zD; rw [c1, c2]; rfl⟩) (s1.trans s3) (s3 _ _ hL) t2 nt2

end
end K27

set_option Elab.async false
set_option linter.all false
set_option maxRecDepth 100000
set_option maxHeartbeats 4000000
/-! rows and polys in memory -/
namespace K27
open PySem PySem.Spec PyProof.Rows L2 Tw
/-- tuples are kept -/
def Kt (H H' : Hp) : Prop := ∀ b xs, H b = some (.tup xs) → H' b = some (.tup xs)
theorem Kt.of {H H' : Hp} (s : Same H H') : Kt H H' := fun b xs e => s b _ e
theorem Kt.trans {H H1 H2 : Hp} (x : Kt H H1) (y : Kt H1 H2) : Kt H H2 := fun b xs e => y b xs (x b xs e)
theorem kt_kp {a : Addr} {H H' : Hp} (w : We a H) (k : Kp a H H') : Kt H H' := fun b xs e => k b _ (fun z => by
  obtain ⟨x, y, c, h⟩ := w
  rw [z, h] at e; cases e) e
theorem kt_upd {L : Addr} {H : Hp} {ys : List V} {o : HO} (h : H L = some (.lst ys)) : Kt H (upd H L o) := fun b xs e => by
  rw [upd_ne (fun z => by rw [z, h] at e; cases e)]; exact e
def Ro (H : Hp) (v : V) (r : List Int) : Prop := ∃ p, v = .ref p ∧ H p = some (.tup (r.map V.int))
theorem Ro.kt {H H' : Hp} {v : V} {r : List Int} (k : Kt H H') (h : Ro H v r) : Ro H' v r := by
  obtain ⟨p, e, f⟩ := h
  exact ⟨p, e, k _ _ f⟩
def RoA (H : Hp) (xs : List V) (rs : List (List Int)) : Prop := xs.length = rs.length ∧ ∀ (i : Nat) v, xs[i]? = some v → ∃ r, rs[i]? = some r ∧ Ro H v r
theorem RoA.kt {H H' : Hp} {v : List V} {r : List (List Int)} (k : Kt H H') (h : RoA H v r) : RoA H' v r :=
  ⟨h.1, fun i v e => let ⟨r, e1, e2⟩ := h.2 i v e; ⟨r, e1, e2.kt k⟩⟩
def Po (H : Hp) (v : V) (p : List (List Int)) : Prop := ∃ q xs, v = .ref q ∧ H q = some (.tup xs) ∧ RoA H xs p
theorem Po.kt {H H' : Hp} {v : V} {r : List (List Int)} (k : Kt H H') (h : Po H v r) : Po H' v r := by
  obtain ⟨q, xs, e, f, g⟩ := h
  exact ⟨q, xs, e, k _ _ f, g.kt k⟩
theorem RoA.nil (H : Hp) : RoA H [] [] := ⟨rfl, fun i v e => by simp at e⟩
theorem RoA.snoc {H : Hp} {xs : List V} {rs : List (List Int)} {v : V} {r : List Int} (h : RoA H xs rs) (g : Ro H v r) : RoA H (xs ++ [v]) (rs ++ [r]) := by
  obtain ⟨h1, h2⟩ := h
  refine ⟨by simp [h1], fun i u e => ?_⟩
  rcases Nat.lt_trichotomy i xs.length with c | c | c
  · rw [List.getElem?_append_left c] at e
    obtain ⟨r', e1, e2⟩ := h2 i u e
    exact ⟨r', by rw [List.getElem?_append_left (by omega)]; exact e1, e2⟩
  · subst c
    rw [List.getElem?_append_right (Nat.le_refl _), Nat.sub_self] at e
    cases e
    refine ⟨r, ?_, g⟩
    rw [h1, List.getElem?_append_right (Nat.le_refl _), Nat.sub_self]
    rfl
  · rw [List.getElem?_eq_none (by simp; omega)] at e
    cases e
theorem RoA.take {H : Hp} {xs : List V} {rs : List (List Int)} (k : Nat) (h : RoA H xs rs) : RoA H (xs.take k) (rs.take k) := by
  refine ⟨by rw [List.length_take, List.length_take, h.1], fun i v e => ?_⟩
  rw [List.getElem?_take] at e ⊢
  split at e
  · rw [if_pos ‹_›]; exact h.2 i v e
  · cases e
theorem RoA.set {H : Hp} {xs : List V} {rs : List (List Int)} {v : V} {r : List Int} (k : Nat) (h : RoA H xs rs) (g : Ro H v r) : RoA H (xs.set k v) (rs.set k r) := by
  refine ⟨by rw [List.length_set, List.length_set, h.1], fun i u e => ?_⟩
  rw [List.getElem?_set] at e ⊢
  rw [← h.1]
  split at e
  · rw [if_pos ‹_›]
    split at e
    · rw [if_pos ‹_›]; cases e; exact ⟨r, rfl, g⟩
    · cases e
  · rw [if_neg ‹_›]; exact h.2 i u e
theorem RoA.get {H : Hp} {xs : List V} {rs : List (List Int)} {k : Nat} (h : RoA H xs rs) (hk : k < rs.length) : ∃ v, xs[k]? = some v ∧ Ro H v rs[k] := by
  have hx : k < xs.length := by rw [h.1]; exact hk
  obtain ⟨r, e1, e2⟩ := h.2 k xs[k] (List.getElem?_eq_getElem hx)
  rw [List.getElem?_eq_getElem hk] at e1
  cases e1
  exact ⟨_, List.getElem?_eq_getElem hx, e2⟩
/-! as data -/
def rowD (ns : List Int) : PyData := .tuple (ns.map PyData.int)
def polyD (p : List (List Int)) : PyData := .tuple (p.map rowD)
theorem da_ints (a : Addr) (H : Hp) : ∀ ns : List Int, DaAll a H (ns.map V.int) (ns.map PyData.int)
  | [] => .nil
  | n :: ns => .cons (.int n) (da_ints a H ns)
theorem We.nt {a p : Addr} {H : Hp} {xs : List V} (w : We a H) (h : H p = some (.tup xs)) : p ≠ a := fun z => by
  obtain ⟨x, y, c, e⟩ := w
  rw [z, e] at h; cases h
theorem da_row {a : Addr} {H : Hp} {v : V} {r : List Int} (w : We a H) (h : Ro H v r) : Da a H v (rowD r) := by
  obtain ⟨p, rfl, e⟩ := h
  exact .tup (We.nt w e) e (da_ints a H r)
theorem das_rows {a : Addr} {H : Hp} (w : We a H) : ∀ {xs : List V} {rs : List (List Int)}, RoA H xs rs → DaAll a H xs (rs.map rowD)
  | [], [], _ => .nil
  | [], r :: rs, h => by have := h.1; simp at this
  | x :: xs, [], h => by have := h.1; simp at this
  | x :: xs, r :: rs, h => by
    obtain ⟨r', e1, e2⟩ := h.2 0 x rfl
    cases e1
    refine .cons (da_row w e2) (das_rows w ⟨by have := h.1; simpa using this, fun i v e => ?_⟩)
    obtain ⟨r', e1, e2⟩ := h.2 (i + 1) v (by simpa using e)
    exact ⟨r', by simpa using e1, e2⟩
theorem da_poly {a : Addr} {H : Hp} {v : V} {p : List (List Int)} (w : We a H) (h : Po H v p) : Da a H v (polyD p) := by
  obtain ⟨q, xs, rfl, e, g⟩ := h
  exact .tup (We.nt w e) e (das_rows w g)
theorem nice_row (ns : List Int) : Nice 1 (rowD ns) := nice_tup fun d hd => by
  obtain ⟨i, _, rfl⟩ := List.mem_map.mp hd
  exact nice_int i
theorem nice_poly (p : List (List Int)) : Nice 2 (polyD p) := nice_tup fun d hd => by
  obtain ⟨i, _, rfl⟩ := List.mem_map.mp hd
  exact nice_row i
theorem zD_int (c : Int) : zD (.int c) = (c == 0) := by
  unfold zD
  simp [PyData.eqv]
theorem zD_row (r : List Int) : zD (rowD r) = r.isEmpty := by
  unfold zD rowD
  cases r <;> simp [PyData.eqv, PyData.eqvAll]
theorem rowB_ok {r : List Int} (h : okR r) : rowB (rowD r) = true := by
  unfold rowD rowB
  rw [Bool.and_eq_true]
  refine ⟨List.all_eq_true.mpr fun b hb => ?_, ?_⟩
  · rw [List.map_map] at hb
    obtain ⟨i, _, rfl⟩ := List.mem_map.mp hb
    rfl
  · unfold lastD
    rw [List.getLast?_map]
    cases e : r.getLast? with
    | none => rfl
    | some c => simpa [PyData.eqv] using h c e
theorem polyB_ok {p : List (List Int)} (h : okP p) : polyB (polyD p) = true := by
  unfold polyD polyB
  rw [Bool.and_eq_true]
  refine ⟨List.all_eq_true.mpr fun b hb => ?_, ?_⟩
  · rw [List.map_map] at hb
    obtain ⟨r, hr, rfl⟩ := List.mem_map.mp hb
    exact rowB_ok (h.1 r hr)
  · unfold lastD
    rw [List.getLast?_map]
    cases e : p.getLast? with
    | none => rfl
    | some r =>
      have := h.2 r e
      cases r with
      | nil => exact absurd rfl this
      | cons _ _ => simp [rowD, PyData.eqv, PyData.eqvAll]
theorem sm_row {n : Nat} {r : List Int} (h : r.length ≤ n) : Sm 1 n (rowD r) := sm_tup (by rw [List.length_map]; exact h) fun d hd => by
  obtain ⟨i, _, rfl⟩ := List.mem_map.mp hd
  exact sm_int _ _ i
theorem sm_poly {n b : Nat} {p : List (List Int)} (h : Bd n b p) : Sm 2 n (polyD p) := sm_tup (by rw [List.length_map]; exact h.1) fun d hd => by
  obtain ⟨r, hr, rfl⟩ := List.mem_map.mp hd
  exact sm_row (h.2 r hr).1
/-! trims -/
/-- a list of ints, a list of rows: without its last zeros -/
def spTrimI : Sp := fun vs H Q _ => ∃ p l, vs = [.ref p] ∧ H p = some (.lst (l.map V.int)) ∧ ∀ v H', Same H H' → Ro H' v (trimI l) → Q v H'
def spTrimP : Sp := fun vs H Q _ => ∃ p xs rs, vs = [.ref p] ∧ H p = some (.lst xs) ∧ RoA H xs rs ∧ (∃ a, We a H) ∧ ∀ v H', Same H H' → Po H' v (trimP rs) → Q v H'
theorem trim_int (vs : List V) (H : Hp) (Q : VK) (E : XK) (h : spTrimI vs H Q E) : spTrim vs H Q E := by
  obtain ⟨p, l, rfl, hp, q⟩ := h
  refine ⟨0, p, _, _, rfl, hp, da_ints 0 H l, fun d hd => ?_, fun k t H' hk hz hb s n e => q _ H' s ⟨t, rfl, ?_⟩⟩
  · obtain ⟨i, _, rfl⟩ := List.mem_map.mp hd
    exact (nice_int i).up (by decide)
  · rw [e, ← List.map_take]
    congr 3
    refine (trimBy_take _ l k (by simpa using hk) (fun i c hi ec => ?_) ?_).symm
    · have := hz i (.int c) hi (by rw [List.getElem?_map, ec]; rfl)
      rwa [zD_int] at this
    · rcases hb with hb | ⟨d, e1, e2⟩
      · exact .inl hb
      · rw [List.getElem?_map] at e1
        cases ec : l[k - 1]? with
        | none => rw [ec] at e1; cases e1
        | some c =>
          rw [ec] at e1; cases e1
          rw [zD_int] at e2
          exact .inr ⟨c, rfl, e2⟩
theorem trim_rows (vs : List V) (H : Hp) (Q : VK) (E : XK) (h : spTrimP vs H Q E) : spTrim vs H Q E := by
  obtain ⟨p, xs, rs, rfl, hp, hr, ⟨a, w⟩, q⟩ := h
  refine ⟨a, p, _, _, rfl, hp, das_rows w hr, fun d hd => ?_, fun k t H' hk hz hb s n e => q _ H' s ?_⟩
  · obtain ⟨i, _, rfl⟩ := List.mem_map.mp hd
    exact (nice_row i).up (by decide)
  · have : trimP rs = rs.take k := by
      refine trimBy_take _ rs k (by rw [← hr.1]; exact hk) (fun i c hi ec => ?_) ?_
      · have := hz i (rowD c) hi (by rw [List.getElem?_map, ec]; rfl)
        rwa [zD_row] at this
      · rcases hb with hb | ⟨d, e1, e2⟩
        · exact .inl hb
        · rw [List.getElem?_map] at e1
          cases ec : rs[k - 1]? with
          | none => rw [ec] at e1; cases e1
          | some c =>
            rw [ec] at e1; cases e1
            rw [zD_row] at e2
            exact .inr ⟨c, rfl, e2⟩
    rw [this]
    exact ⟨t, _, rfl, e, (hr.kt (Kt.of s)).take k⟩
end K27

set_option Elab.async false
set_option linter.all false
set_option maxRecDepth 100000
set_option maxHeartbeats 4000000
local macro_rules | `(tactic| walk_at "rd") => `(tactic| dsimp only [L2.tSeq, L2.tNext, L2.tRet, L2.tRetN, L2.tAsg, L2.gName, L2.tIfS, L2.tDrop, L2.tCons, L2.tNil, L2.tC, L2.tVar, L2.tCB, L2.tAndV, L2.tOrV, L2.tNotV, L2.tB, L2.tTest, L2.tOp, L2.tUn, L2.tNot, L2.tAnd, L2.tOr, L2.tIf, L2.tCall, L2.tTup, L2.tLst, L2.tNotT, L2.tYes, L2.gTup, L2.gCons, L2.gNil, L2.gSub, L2.tBM0, L2.tBM, L2.tWhile, L2.tFor, L2.iRng1])
namespace K27
open PySem PySem.Spec PyProof.Rows L2 Tw
def spInt : Sp := fun vs H Q _ => ∃ a, vs = [.ref a] ∧ We a H ∧ ∀ (i : Int) H', i.natAbs ≤ 500000 → Kp a H H' → We a H' → Q (.int i) H'
def spRowM : Sp := fun vs H Q _ => ∃ a n, vs = [.ref a, .int n] ∧ We a H ∧ 0 ≤ n ∧ n ≤ 100 ∧ ∀ v ns H', Kp a H H' → We a H' → Ro H' v ns → okR ns → (ns.length : Int) ≤ n → (∀ c ∈ ns, c.natAbs ≤ 500000) → Q v H'
def spPolyM : Sp := fun vs H Q _ => ∃ a n, vs = [.ref a, .int n] ∧ We a H ∧ 0 < n ∧ n ≤ 100 ∧ ∀ v rs H', Kp a H H' → We a H' → Po H' v rs → okP rs → (∀ k : Nat, n ≤ k → Bd k 500000 rs) → Q v H'
section
variable {P : Program} {w : World} {K : PySem.W.Frag} {mg : Str → Option Value} {base : Heap}
theorem scNum : FnScope ["_law_well_here"] ["_law_well_here"] (defScope sNum) := ⟨rfl, rfl, rfl, by decide +kernel, rfl, by decide +kernel, by decide +kernel⟩
theorem ok_num (D : Def K mg "_law_number" sNum ["_law_well_here"]) (c1 : Cal P w K mg base "_law_draw" 1 ["_law_well_here", "_law_many"] spDraw) : Cal P w K mg base "_law_number" 2 ["_law_well_here"] spInt := by
  refine D.ok scNum (fun vs H Q E h => ?_) (fun f cdv A out s H vs Q E hr h => ?_)
  · obtain ⟨a, rfl, _⟩ := h; rfl
  obtain ⟨a, rfl, hw, q⟩ := h
  refine ⟨_, pss_cons (ps_if (pt_cmpR op_eq (pe_cal c1 hr (Nat.le_refl 1) (by rfl) (pa_cons (pv 0) (pa_cons pe_int pa_nil))) pe_int (nomark _))
      (pss_one (ps_ret (pe_op op_sub (pe_cal c1 hr (Nat.le_refl 1) (by rfl) (pa_cons (pv 0) (pa_cons (pe_op op_pow pe_int pe_int) pa_nil))) pe_int))) pss_nil)
    (pss_one (ps_ret (pe_op op_sub (pe_cal c1 hr (Nat.le_refl 1) (by rfl) (pa_cons (pv 0) (pa_cons pe_int pa_nil))) pe_int))), ?_⟩
  walk_at "rd"
  refine ⟨.ref a, rfl, a, _, rfl, hw, by decide, by decide, fun d H1 d0 d1 k1 w1 => ?_⟩
  refine ⟨rfl, _, rfl, ite2 (fun c => ?_) (fun c => ?_)⟩
  · refine ⟨.ref a, rfl, 10, 6, rfl, rfl, ⟨by decide, by decide, by decide⟩, a, _, rfl, w1, by decide, by decide, fun d2 H2 e0 e1 k2 w2 => ?_⟩
    exact ⟨d2, _, rfl, rfl, q _ _ (by first | omega | (have e2 : d2 < 1000000 := e1; omega)) (k1.trans k2) w2⟩
  · refine ⟨.ref a, rfl, a, _, rfl, w1, by decide, by decide, fun d2 H2 e0 e1 k2 w2 => ?_⟩
    exact ⟨d2, _, rfl, rfl, q _ _ (by first | omega | (have e2 : d2 < 1000000 := e1; omega)) (k1.trans k2) w2⟩
theorem scLRow : FnScope ["_law_well_here", "_law_many", "_law_made", "_law_k"] ["_law_well_here", "_law_many"] (defScope sLRow) := ⟨rfl, rfl, rfl, by decide +kernel, rfl, by decide +kernel, by decide +kernel⟩
theorem ok_lrow (D : Def K mg "_law_row" sLRow ["_law_well_here", "_law_many"]) (nb : Nb mg) (c1 : Cal P w K mg base "_law_draw" 1 ["_law_well_here", "_law_many"] spDraw)
    (c2 : Cal P w K mg base "_law_number" 2 ["_law_well_here"] spInt) (c3 : Cal P w K mg base "_law_trim" 1 ["_law_some"] spTrimI) : Cal P w K mg base "_law_row" 3 ["_law_well_here", "_law_many"] spRowM := by
  refine D.ok scLRow (fun vs H Q E h => ?_) (fun f cdv A out s H vs Q E hr h => ?_)
  · obtain ⟨a, n, rfl, _⟩ := h; rfl
  obtain ⟨a, n, rfl, hw, n0, n1, q⟩ := h
  refine ⟨_, pss_cons (ps_set (i := 2) scLRow.nd rfl (Or.inl rfl) (pe_lst pa_nil))
    (pss_cons (ps_for PassesOwn.never rfl (pi_range1 (by rfl) nb.rng (pa_cons (pe_cal c1 hr (by decide) (by rfl) (pa_cons (pv 0) (pa_cons (pe_op op_add (pv 1) pe_int) pa_nil))) pa_nil))
        (pg_name (i := 3) scLRow.nd rfl (Or.inl rfl))
        (pss_one (ps_expr (pe_bm PySem.F.plainAttrs_list PySem.F.slot_list_append PySem.F.type_list_append mt_append (pv 2) (pa_cons (pe_cal c2 hr (by decide) (by rfl) (pa_cons (pv 0) pa_nil)) pa_nil)))))
    (pss_one (ps_ret (pe_cal c3 hr (by decide) (by rfl) (pa_cons (pv 2) pa_nil))))), ?_⟩
  walk_at "rd"
  refine ⟨sz (by decide), fun L nL => ?_⟩
  have La : L ≠ a := hw.ne nL
  have w0 := we_new (o := .lst []) hw nL
  have k0 : Kp a H (upd H L (.lst [])) := kp_new nL
  refine ⟨.ref a, rfl, .int n, rfl, n, 1, rfl, rfl, a, _, rfl, w0, by omega, by omega, fun d H1 d0 d1 k1 w1 => ?_⟩
  refine ⟨d, rfl, by omega, by omega, for_rng (lo := 0) (n := d.toNat) (fun i σ H' => ∃ (x3 : Option V) (ns : List Int), σ = [some (.ref a), some (.int n), some (.ref L), x3] ∧ Kp a H H' ∧ We a H' ∧ H' L = some (.lst (ns.map V.int)) ∧ ns.length = i ∧ ∀ c ∈ ns, c.natAbs ≤ 500000) ?_ ?_ ?_⟩
  · exact ⟨none, [], rfl, k0.trans k1, w1, k1 _ _ La upd_same, rfl, fun c hc => by cases hc⟩
  · rintro i σ H2 hi ⟨x3, ns, rfl, k2, w2, e2, l2, b2⟩
    walk_at "rd"
    refine ⟨.ref L, rfl, .inl ⟨rfl, _, SqL.of e2⟩, .ref a, rfl, a, rfl, w2, fun j H3 jb k3 w3 => ⟨L, ns.map V.int, .int j, rfl, rfl, k3 _ _ La e2, ?_, ?_⟩⟩
    · rw [List.length_map]; exact lt_line (by omega)
    · have w4 : We a (upd H3 L (.lst (ns.map V.int ++ [.int j]))) := by obtain ⟨x, y, z, e⟩ := w3; exact ⟨x, y, z, by rw [upd_ne La.symm]; exact e⟩
      exact ⟨some (.int (0 + (i : Int))), ns ++ [j], rfl, kp_upd (k2.trans k3) nL, w4, by rw [upd_same, List.map_append]; rfl, by simp [l2], fun c hc => by
        rcases List.mem_append.mp hc with hc | hc
        · exact b2 c hc
        · rw [List.mem_singleton.mp hc]; exact jb⟩
  · rintro σ H2 ⟨x3, ns, rfl, k2, w2, e2, l2, b2⟩
    refine ⟨.ref L, rfl, L, ns, rfl, e2, fun v H3 s3 r3 => q v (trimI ns) H3 (k2.trans (Kp.of s3)) (w2.to s3) r3 (okR_trim _) ?_ fun c hc => b2 c (trimBy_mem _ _ hc)⟩
    have : (trimI ns).length ≤ ns.length := trimBy_len _ ns
    omega
end
end K27

set_option Elab.async false
set_option linter.all false
set_option maxRecDepth 100000
set_option maxHeartbeats 8000000
local macro_rules | `(tactic| walk_at "rd") => `(tactic| dsimp only [Evl.tCut, L2.tSeq, L2.tNext, L2.tRet, L2.tRetN, L2.tAsg, L2.gName, L2.tIfS, L2.tDrop, L2.tCons, L2.tNil, L2.tC, L2.tVar, L2.tCB, L2.tAndV, L2.tOrV, L2.tNotV, L2.tB, L2.tTest, L2.tOp, L2.tUn, L2.tNot, L2.tAnd, L2.tOr, L2.tIf, L2.tCall, L2.tTup, L2.tLst, L2.tNotT, L2.tYes, L2.gTup, L2.gCons, L2.gNil, L2.gSub, L2.tBM0, L2.tBM, L2.tWhile, L2.iRng1, L2.tSl, L2.tNoPart, L2.tPart, Tw.tRevT])
namespace K27
open PySem PySem.Spec PyProof.Rows L2 Tw
/-- a new well -/
def spWell (K : PySem.W.Frag) : Sp := fun vs H Q _ => ∃ (p : Addr) (ns : List Int) (k : Int), vs = [.ref p, .int k] ∧ SqL K H p (ns.map V.int) ∧ ns.length ≤ 63 ∧ 0 ≤ k ∧ ∀ a H', Same H H' → H a = none → We a H' → Q (.ref a) H'
def spLaw (K : PySem.W.Frag) : Sp := fun vs H Q _ => ∃ (p : Addr) (ns : List Int), vs = [.ref p] ∧ SqL K H p (ns.map V.int) ∧ ns.length ≤ 63 ∧ ∀ H', Q (.bl true) H'
section
variable {P : Program} {w : World} {K : PySem.W.Frag} {mg : Str → Option Value} {base : Heap}
theorem scWell : FnScope ["_law_script", "_law_at", "_law_mixed", "_law_cell", "_law_own"] ["_law_script", "_law_at"] (defScope sWell) := ⟨rfl, rfl, rfl, by decide +kernel, rfl, by decide +kernel, by decide +kernel⟩
theorem ok_well (D : Def K mg "_law_well" sWell ["_law_script", "_law_at"]) (nb : Nb mg) : Cal P w K mg base "_law_well" 1 ["_law_script", "_law_at"] (spWell K) := by
  refine D.ok scWell (fun vs H Q E h => ?_) (fun f cdv A out s H vs Q E hr h => ?_)
  · obtain ⟨p, ns, k, rfl, _⟩ := h; rfl
  obtain ⟨p, ns, k, rfl, hp, hl, k0, q⟩ := h
  refine ⟨_, pss_cons (ps_set (i := 2) scWell.nd rfl (Or.inl rfl) (pe_op op_add pe_int (pe_op op_mul pe_int (pv 1))))
    (pss_cons (ps_for PassesOwn.never rfl (pi_list (pe_slice sl_list (pv 0) po_none (po_some pe_int))) (pg_name (i := 3) scWell.nd rfl (Or.inl rfl))
        (pss_one (ps_set (i := 2) scWell.nd rfl (Or.inl rfl) (pe_op op_mod (pe_callTy (T := "int") call_int1 (by rfl) nb.int (by decide +kernel)
          (pa_cons (pe_op op_add (pe_op op_add (pe_op op_mul (pv 2) pe_int) (pe_op op_mod (pe_callTy (T := "int") call_int1 (by rfl) nb.int (by decide +kernel) (pa_cons (pv 3) pa_nil)) pe_int)) pe_int) pa_nil)) pe_int))))
    (Evl.pss_cut (ps_set (i := 4) scWell.nd rfl (Or.inl rfl) (pe_ifExp (pt_cmpR op_lt (pv 1) (pe_callB (id := "len") call_len_seq (by rfl) nb.len PySem.boot_len (pa_cons (pv 0) pa_nil)) (nomark _))
        (pe_callTy (T := "int") call_int1 (by rfl) nb.int (by decide +kernel) (pa_cons (pe_ix ix_list (pv 0) (pv 1) (fun _ _ => rfl)) pa_nil)) pe_int))
    (pss_cons (ps_set (i := 2) scWell.nd rfl (Or.inl rfl) (pe_op op_mod (pe_callTy (T := "int") call_int1 (by rfl) nb.int (by decide +kernel)
        (pa_cons (pe_op op_add (pe_op op_add (pe_op op_mul (pv 2) pe_int) (pe_op op_mul (pe_op op_mod (pe_callTy (T := "int") call_int1 (by rfl) nb.int (by decide +kernel) (pa_cons (pv 4) pa_nil)) pe_int) pe_int)) pe_int) pa_nil)) pe_int))
    (pss_one (ps_ret (pe_lst (pa_cons (pe_ifExp (PW.pt (pw_or (pt_cmpR op_lt (pv 4) pe_int (nomark _)) (pw_or1 (pt_cmpR op_ge (pv 4) (pe_op op_pow pe_int pe_int) (nomark _)))))
        (pe_callB (id := "abs") call_abs (by rfl) nb.abs (by decide +kernel) (pa_cons (pv 4) pa_nil)) pe_int) (pa_cons (pv 2) (pa_cons pe_int pa_nil))))))))), ?_⟩
  walk_at "rd"
  refine ⟨.int k, rfl, _, _, rfl, rfl, .inl ⟨by decide, by decide⟩, _, _, rfl, rfl, .ref p, rfl, 9, rfl, p, _, rfl, hp, fun c nc => ?_⟩
  have s1 := same_new (o := .lst (L2.cutV (ns.map V.int) none (some 9))) nc
  have hc : upd H c (.lst (L2.cutV (ns.map V.int) none (some 9))) c = some (.lst (L2.cutV (ns.map V.int) none (some 9))) := upd_same
  generalize upd H c _ = H1 at s1 hc ⊢
  have hp1 : SqL K H1 p (ns.map V.int) := s1.seq hp
  refine ⟨c, rfl, ⟨_, SqL.of hc⟩, for_lst (xs := L2.cutV (ns.map V.int) none (some 9)) (fun i σ H' => ∃ (mx : Int) (x3 : Option V), σ = [some (.ref p), some (.int k), some (.int mx), x3, none] ∧ H' = H1) ⟨_, none, rfl, rfl⟩ (fun i σ' H' _ h => ?_) (fun i x σ' H' hx h => ?_) (fun σ' H' h => ?_)⟩
  · obtain ⟨mx, x3, rfl, rfl⟩ := h; exact SqL.of hc
  · obtain ⟨mx, x3, rfl, rfl⟩ := h
    obtain ⟨n, _, rfl⟩ : ∃ n, n ∈ ns ∧ V.int n = x := List.mem_map.mp (List.mem_of_mem_drop (List.mem_of_mem_take (List.mem_of_getElem? hx)))
    refine ⟨.int mx, rfl, _, _, rfl, rfl, .inr ⟨by decide, by decide⟩, .int n, rfl, .inl ⟨n, rfl, _, _, rfl, rfl, (by show (0 : Int) < _; decide), _, _, rfl, rfl, _, _, rfl, rfl, .inl ⟨_, rfl, _, _, rfl, rfl, (by show (0 : Int) < _; decide), ?_⟩⟩⟩
    exact ⟨_, some (.int n), rfl, rfl⟩
  · obtain ⟨mx, x3, rfl, rfl⟩ := h
    refine ⟨fun σ2 H2 => ∃ o : Int, σ2 = [some (.ref p), some (.int k), some (.int mx), x3, some (.int o)] ∧ H2 = H', ⟨.int k, rfl, .ref p, rfl, p, _, rfl, .inl hp1, _, _, rfl, rfl, _, rfl, ite2 (fun c1 => ?_) (fun c1 => ⟨0, rfl, rfl⟩)⟩, ?_⟩
    · have c1 := of_decide_eq_true c1
      rw [List.length_map] at c1
      obtain ⟨j, rfl⟩ := Int.eq_ofNat_of_zero_le k0
      have hj : j < ns.length := by omega
      refine ⟨.ref p, rfl, .int j, rfl, p, _, j, .int ns[j], rfl, rfl, hp1, atI_nat (by rw [List.getElem?_map, List.getElem?_eq_getElem hj]; rfl), .inl ⟨_, rfl, ns[j], rfl, rfl⟩⟩
    · rintro σ2 H2 ⟨o, rfl, rfl⟩
      refine ⟨.int mx, rfl, _, _, rfl, rfl, .inr ⟨by decide, by decide⟩, .int o, rfl, .inl ⟨o, rfl, _, _, rfl, rfl, (by show (0 : Int) < _; decide), _, _, rfl, rfl, .inr ⟨by decide, by decide⟩, _, _, rfl, rfl, _, _, rfl, rfl, .inl ⟨_, rfl, _, _, rfl, rfl, (by show (0 : Int) < _; decide), ?_⟩⟩⟩
      have fin : ∀ x y : Int, [V.int x, .int y, .int 0].length ≤ sizeLine ∧ ∀ a, H2 a = none → Q (.ref a) (upd H2 a (.lst [.int x, .int y, .int 0])) := fun x y => ⟨sz (by simp), fun a na => q a _ (s1.trans (same_new na)) (s1.free na) ⟨_, _, _, upd_same⟩⟩
      refine ⟨.int o, rfl, _, _, rfl, rfl, _, rfl, ite2 (fun c1 => ?_) (fun c1 => ?_)⟩
      · exact iteT ⟨.int o, rfl, o, rfl, _, rfl, fin _ _⟩
      · refine ⟨.int o, rfl, _, _, rfl, rfl, ⟨by decide, by decide, by decide⟩, _, _, rfl, rfl, _, rfl, ite2 (fun c2 => ?_) (fun c2 => ?_)⟩
        · exact ⟨.int o, rfl, o, rfl, _, rfl, fin _ _⟩
        · exact ⟨_, rfl, fin _ _⟩

end
end K27

set_option Elab.async false
set_option linter.all false
set_option maxRecDepth 100000
set_option maxHeartbeats 4000000
local macro_rules | `(tactic| walk_at "rd") => `(tactic| dsimp only [Evl.tCut, L2.tSeq, L2.tNext, L2.tRet, L2.tRetN, L2.tAsg, L2.gName, L2.tIfS, L2.tDrop, L2.tCons, L2.tNil, L2.tC, L2.tVar, L2.tCB, L2.tAndV, L2.tOrV, L2.tNotV, L2.tB, L2.tTest, L2.tOp, L2.tUn, L2.tNot, L2.tAnd, L2.tOr, L2.tIf, L2.tCall, L2.tTup, L2.tLst, L2.tNotT, L2.tYes, L2.gTup, L2.gCons, L2.gNil, L2.gSub, L2.tBM0, L2.tBM, L2.tWhile, L2.tFor, L2.iRng1, L2.tPar, L2.tPar3, L2.tSl, L2.tNoPart, L2.tPart, Tw.tRevT])
namespace K27
open PySem PySem.Spec PyProof.Rows L2 Tw
/-! lists of values that stand for things -/
section
variable {α β : Type}
def RelA (R : Hp → V → α → Prop) (H : Hp) (xs : List V) (rs : List α) : Prop := xs.length = rs.length ∧ ∀ (i : Nat) v, xs[i]? = some v → ∃ r, rs[i]? = some r ∧ R H v r
def Stable (R : Hp → V → α → Prop) : Prop := ∀ H H' v r, Kt H H' → R H v r → R H' v r
theorem RelA.kt {R : Hp → V → α → Prop} (st : Stable R) {H H' : Hp} {xs : List V} {rs : List α} (k : Kt H H') (h : RelA R H xs rs) : RelA R H' xs rs :=
  ⟨h.1, fun i v e => let ⟨r, e1, e2⟩ := h.2 i v e; ⟨r, e1, st _ _ _ _ k e2⟩⟩
theorem RelA.snoc {R : Hp → V → α → Prop} {H : Hp} {xs : List V} {rs : List α} {v : V} {r : α} (h : RelA R H xs rs) (g : R H v r) : RelA R H (xs ++ [v]) (rs ++ [r]) := by
  obtain ⟨h1, h2⟩ := h
  refine ⟨by simp [h1], fun i u e => ?_⟩
  rcases Nat.lt_trichotomy i xs.length with c | c | c
  · rw [List.getElem?_append_left c] at e
    obtain ⟨r', e1, e2⟩ := h2 i u e
    exact ⟨r', by rw [List.getElem?_append_left (by omega)]; exact e1, e2⟩
  · subst c
    rw [List.getElem?_append_right (Nat.le_refl _), Nat.sub_self] at e
    cases e
    refine ⟨r, ?_, g⟩
    rw [h1, List.getElem?_append_right (Nat.le_refl _), Nat.sub_self]
    rfl
  · rw [List.getElem?_eq_none (by simp; omega)] at e
    cases e
theorem RelA.eq_map {f : α → V} {H : Hp} : ∀ {xs : List V} {rs : List α}, RelA (fun _ v r => v = f r) H xs rs → xs = rs.map f
  | [], [], _ => rfl
  | [], r :: rs, h => by have := h.1; simp at this
  | x :: xs, [], h => by have := h.1; simp at this
  | x :: xs, r :: rs, h => by
    obtain ⟨r', e1, e2⟩ := h.2 0 x rfl
    cases e1
    rw [List.map_cons, e2, RelA.eq_map (rs := rs) (xs := xs) (H := H) ⟨by have := h.1; simpa using this, fun i v e => by
      obtain ⟨r', e1, e2⟩ := h.2 (i + 1) v (by simpa using e)
      exact ⟨r', by simpa using e1, e2⟩⟩]
theorem RelA.of_map {f : α → V} {H : Hp} (rs : List α) : RelA (fun _ v r => v = f r) H (rs.map f) rs := ⟨by simp, fun i v e => by
  rw [List.getElem?_map] at e
  cases er : rs[i]? with
  | none => rw [er] at e; cases e
  | some r => rw [er] at e; cases e; exact ⟨r, rfl, rfl⟩⟩
theorem RelA.map {R : Hp → V → α → Prop} {H : Hp} {xs : List V} {rs : List α} (g : α → β) (S : Hp → V → β → Prop) (k : ∀ v r, r ∈ rs → R H v r → S H v (g r)) (h : RelA R H xs rs) : RelA S H xs (rs.map g) :=
  ⟨by rw [List.length_map]; exact h.1, fun i v e => by
    obtain ⟨r, e1, e2⟩ := h.2 i v e
    exact ⟨g r, by rw [List.getElem?_map, e1]; rfl, k v r (List.mem_of_getElem? e1) e2⟩⟩
theorem stable_eq (f : α → V) : Stable (fun _ v r => v = f r) := fun _ _ _ _ _ h => h
theorem stable_ro : Stable Ro := fun _ _ _ _ k h => h.kt k
variable {K : PySem.W.Frag} {te : TE} {i j : Nat} {elt : TE} {vs : List Nat} {σ : L2.St} {H : Hp} {Q : VK} {p : Addr} {xs : List V} {rs : List α} {S : Hp → V → α → Prop} {R : Hp → V → β → Prop} {g : α → β}
theorem rel_step {H1 H2 : Hp} {D : Addr} {m : Nat} {ys : List V} {y : V} {r : α} (sR : Stable R) (nD : H D = none) (hD : H1 D = some (.lst ys)) (s1 : Same H H1) (s2 : Same H1 H2) (er : rs[m]? = some r) (hr : RelA R H1 ys ((rs.take m).map g)) (hy : R H2 y (g r)) :
    H2 D = some (.lst ys) ∧ ys.length = m ∧ Same H (upd H2 D (.lst (ys ++ [y]))) ∧ upd H2 D (.lst (ys ++ [y])) D = some (.lst (ys ++ [y])) ∧ RelA R (upd H2 D (.lst (ys ++ [y]))) (ys ++ [y]) ((rs.take (m + 1)).map g) := by
  have e2 : H2 D = some (.lst ys) := s2 _ _ hD
  have hm : m < rs.length := (List.getElem?_eq_some_iff.mp er).1
  refine ⟨e2, ?_, same_upd (s1.trans s2) nD, upd_same, ?_⟩
  · rw [hr.1, List.length_map, List.length_take]; omega
  · rw [List.take_add_one, er, List.map_append]
    exact ((hr.kt sR (Kt.of s2)).snoc hy).kt sR (kt_upd e2)
/-- [.. for x in t], t a tuple of things -/
theorem lc_relT (sS : Stable S) (sR : Stable R) (hv : σ[i]? = some (some (.ref p))) (ht : H p = some (.tup xs)) (hd : RelA S H xs rs) (hn : rs.length < 100000)
    (hw : ∀ x, wipe ((wipe σ vs).set j (some x)) vs = wipe σ vs)
    (he : ∀ x r H1, r ∈ rs → Same H H1 → S H1 x r → ∀ Z : VK, (∀ y H2, Same H1 H2 → R H2 y (g r) → Z y H2) → elt ((wipe σ vs).set j (some x)) H1 Z)
    (q : ∀ D ys H', Same H H' → H D = none → H' D = some (.lst ys) → RelA R H' ys (rs.map g) → Q (.ref D) H') : tLc (iTup K (tVar i)) (gName j) tYes elt vs σ H Q := by
  refine ⟨.ref p, hv, p, rfl, ⟨xs, SqT.of ht⟩, fun D hD => ?_⟩
  refine lc_tup (xs := xs) (fun m H' => Same H H' ∧ ∃ ys, H' D = some (.lst ys) ∧ RelA R H' ys ((rs.take m).map g)) ⟨same_new hD, [], upd_same, rfl, fun i v e => by simp at e⟩ (fun m H' _ h => SqT.of (h.1 _ _ ht)) (fun m x H1 hx h => ?_) (fun H' h => ?_)
  · obtain ⟨h1, ys, h2, h3⟩ := h
    obtain ⟨r, e1, e2⟩ := hd.2 m x hx
    have hm : m < xs.length := (List.getElem?_eq_some_iff.mp hx).1
    have hx2 := hd.1
    refine ⟨hw x, ?_⟩
    unfold tYes
    simp only [if_true]
    refine he x r H1 (List.mem_of_getElem? e1) h1 (sS _ _ _ _ (Kt.of h1) e2) _ fun y H2 s2 ry => ?_
    obtain ⟨a1, a2, a3, a4, a5⟩ := rel_step sR hD h2 h1 s2 e1 h3 ry
    exact ⟨ys, a1, lt_line (by omega), a3, _, a4, a5⟩
  · obtain ⟨h1, ys, h2, h3⟩ := h
    rw [hd.1, List.take_length] at h3
    exact q D ys H' h1 hD h2 h3
/-- .. t a list -/
theorem lc_relL (sS : Stable S) (sR : Stable R) (hv : σ[i]? = some (some (.ref p))) (ht : H p = some (.lst xs)) (hd : RelA S H xs rs) (hn : rs.length < 100000)
    (hw : ∀ x, wipe ((wipe σ vs).set j (some x)) vs = wipe σ vs)
    (he : ∀ x r H1, r ∈ rs → Same H H1 → S H1 x r → ∀ Z : VK, (∀ y H2, Same H1 H2 → R H2 y (g r) → Z y H2) → elt ((wipe σ vs).set j (some x)) H1 Z)
    (q : ∀ D ys H', Same H H' → H D = none → H' D = some (.lst ys) → RelA R H' ys (rs.map g) → Q (.ref D) H') : tLc (iList K (tVar i)) (gName j) tYes elt vs σ H Q := by
  refine ⟨.ref p, hv, p, rfl, ⟨xs, SqL.of ht⟩, fun D hD => ?_⟩
  refine lc_list (xs := xs) (fun m H' => Same H H' ∧ ∃ ys, H' D = some (.lst ys) ∧ RelA R H' ys ((rs.take m).map g)) ⟨same_new hD, [], upd_same, rfl, fun i v e => by simp at e⟩ (fun m H' _ h => SqL.of (h.1 _ _ ht)) (fun m x H1 hx h => ?_) (fun H' h => ?_)
  · obtain ⟨h1, ys, h2, h3⟩ := h
    obtain ⟨r, e1, e2⟩ := hd.2 m x hx
    have hm : m < xs.length := (List.getElem?_eq_some_iff.mp hx).1
    have hx2 := hd.1
    refine ⟨hw x, ?_⟩
    unfold tYes
    simp only [if_true]
    refine he x r H1 (List.mem_of_getElem? e1) h1 (sS _ _ _ _ (Kt.of h1) e2) _ fun y H2 s2 ry => ?_
    obtain ⟨a1, a2, a3, a4, a5⟩ := rel_step sR hD h2 h1 s2 e1 h3 ry
    exact ⟨ys, a1, lt_line (by omega), a3, _, a4, a5⟩
  · obtain ⟨h1, ys, h2, h3⟩ := h
    rw [hd.1, List.take_length] at h3
    exact q D ys H' h1 hD h2 h3
end
/-! a small fraction; a row's worth at one -/
end K27

set_option Elab.async false
set_option linter.all false
set_option maxRecDepth 100000
set_option maxHeartbeats 4000000
local macro_rules | `(tactic| walk_at "rd") => `(tactic| dsimp only [Evl.tCut, L2.tSeq, L2.tNext, L2.tRet, L2.tRetN, L2.tAsg, L2.gName, L2.tIfS, L2.tDrop, L2.tCons, L2.tNil, L2.tC, L2.tVar, L2.tCB, L2.tAndV, L2.tOrV, L2.tNotV, L2.tB, L2.tTest, L2.tOp, L2.tUn, L2.tNot, L2.tAnd, L2.tOr, L2.tIf, L2.tCall, L2.tTup, L2.tLst, L2.tNotT, L2.tYes, L2.gTup, L2.gCons, L2.gNil, L2.gSub, L2.tBM0, L2.tBM, L2.tWhile, L2.tFor, L2.iRng1, L2.tPar, L2.tPar3, L2.tSl, L2.tNoPart, L2.tPart, Tw.tRevT])
namespace K27
open PySem PySem.Spec PyProof.Rows L2 Tw
def rLn (K : PySem.W.Frag) : List V → Hp → VK → Prop := fun xs H Q => ∃ p ys, xs = [.ref p] ∧ (SqL K H p ys ∨ SqT K H p ys) ∧ Q (.int ys.length) H
theorem wipeJ (σ : L2.St) (j : Nat) (x : Option V) : wipe ((wipe σ [j]).set j x) [j] = wipe σ [j] := by
  show ((σ.set j none).set j x).set j none = σ.set j none
  rw [List.set_set, List.set_set]
end K27

set_option linter.all false
set_option maxRecDepth 10000
/-! rows and polys by their numbers -/
namespace K27
abbrev g (r : List Int) (k : Nat) : Int := r.getD k 0
def rw' (p : List (List Int)) (i : Nat) : List Int := p.getD i []
def co (p : List (List Int)) (i j : Nat) : Int := g (rw' p i) j
theorem g_none {r : List Int} {k : Nat} (h : r.length ≤ k) : g r k = 0 := by
  unfold g
  rw [List.getD_eq_getElem?_getD, List.getElem?_eq_none h]
  rfl
theorem g_some {r : List Int} {k : Nat} (h : k < r.length) : g r k = r[k] := by
  unfold g
  rw [List.getD_eq_getElem?_getD, List.getElem?_eq_getElem h]
  rfl
theorem rw_none {p : List (List Int)} {k : Nat} (h : p.length ≤ k) : rw' p k = [] := by
  unfold rw'
  rw [List.getD_eq_getElem?_getD, List.getElem?_eq_none h]
  rfl
theorem rw_some {p : List (List Int)} {k : Nat} (h : k < p.length) : rw' p k = p[k] := by
  unfold rw'
  rw [List.getD_eq_getElem?_getD, List.getElem?_eq_getElem h]
  rfl
theorem getD_trim {α : Type} (z : α → Bool) (d : α) (hz : ∀ a, z a = true → a = d) : ∀ (l : List α) (k : Nat), (trimBy z l).getD k d = l.getD k d
  | [], k => rfl
  | a :: l, k => by
    have ih := getD_trim z d hz l
    rw [trimBy]
    cases e : trimBy z l with
    | nil =>
      rw [e] at ih
      by_cases c : z a = true
      · rw [if_pos c]
        cases k with
        | zero => simp [hz a c]
        | succ k => simpa using ih k
      · rw [if_neg c]
        cases k with
        | zero => simp
        | succ k => simpa using ih k
    | cons b r =>
      rw [e] at ih
      cases k with
      | zero => simp
      | succ k => simpa using ih k
theorem g_trim (l : List Int) (k : Nat) : g (trimI l) k = g l k := getD_trim _ _ (fun a h => by simpa using h) l k
theorem rw_trim (p : List (List Int)) (k : Nat) : rw' (trimP p) k = rw' p k := getD_trim _ _ (fun a h => by simpa using h) p k
theorem getD_take {α : Type} (d : α) (l : List α) (n k : Nat) (h : ∀ i, n ≤ i → l.getD i d = d) : (l.take n).getD k d = l.getD k d := by
  rw [List.getD_eq_getElem?_getD, List.getElem?_take]
  split
  · rw [List.getD_eq_getElem?_getD]
  · rw [h k (by omega)]
    rfl
/-- a row is known by its numbers -/
theorem row_ext {r s : List Int} (hr : okR r) (hs : okR s) (h : ∀ k, g r k = g s k) : r = s := by
  have half : ∀ {r s : List Int}, okR s → (∀ k, g r k = g s k) → s.length ≤ r.length := fun {r s} hs h => by
    rcases Nat.lt_or_ge r.length s.length with c | c
    · exfalso
      have e : s.getLast? = some s[s.length - 1] := by rw [List.getLast?_eq_getElem?, List.getElem?_eq_getElem (by omega)]
      refine hs _ e ?_
      rw [← g_some (by omega), ← h, g_none (by omega)]
    · exact c
  have l : r.length = s.length := Nat.le_antisymm (half hr fun k => (h k).symm) (half hs h)
  refine List.ext_getElem l fun k h1 h2 => ?_
  rw [← g_some h1, ← g_some h2, h]
theorem okR_nil : okR [] := fun c h => by simp at h
theorem okR_rw {p : List (List Int)} (h : ∀ r ∈ p, okR r) (i : Nat) : okR (rw' p i) := by
  rcases Nat.lt_or_ge i p.length with c | c
  · rw [rw_some c]; exact h _ (List.getElem_mem _)
  · rw [rw_none c]; exact okR_nil
theorem poly_ext {p q : List (List Int)} (hp : okP p) (hq : okP q) (h : ∀ i j, co p i j = co q i j) : p = q := by
  have e : ∀ i, rw' p i = rw' q i := fun i => row_ext (okR_rw hp.1 i) (okR_rw hq.1 i) (h i)
  have half : ∀ {p q : List (List Int)}, okP q → (∀ i, rw' p i = rw' q i) → q.length ≤ p.length := fun {p q} hq h => by
    rcases Nat.lt_or_ge p.length q.length with c | c
    · exfalso
      have e : q.getLast? = some q[q.length - 1] := by rw [List.getLast?_eq_getElem?, List.getElem?_eq_getElem (by omega)]
      refine hq.2 _ e ?_
      rw [← rw_some (by omega), ← h, rw_none (by omega)]
    · exact c
  have l : p.length = q.length := Nat.le_antisymm (half hp fun k => (e k).symm) (half hq e)
  refine List.ext_getElem l fun k h1 h2 => ?_
  rw [← rw_some h1, ← rw_some h2, e]
/-! sums -/
def S : Nat → (Nat → Int) → Int
  | 0, _ => 0
  | n + 1, f => S n f + f n
theorem S_ext {f h : Nat → Int} : ∀ n, (∀ i, i < n → f i = h i) → S n f = S n h
  | 0, _ => rfl
  | n + 1, e => by rw [S, S, S_ext n fun i hi => e i (by omega), e n (by omega)]
theorem S_zero : ∀ n, S n (fun _ => 0) = 0
  | 0 => rfl
  | n + 1 => by rw [S, S_zero n]; rfl
theorem S_more {f : Nat → Int} {n m : Nat} (h : n ≤ m) (z : ∀ i, n ≤ i → f i = 0) : S m f = S n f := by
  induction m with
  | zero => have : n = 0 := by omega
            subst this; rfl
  | succ m ih =>
    rcases Nat.lt_or_ge m n with c | c
    · have : n = m + 1 := by omega
      subst this; rfl
    · rw [S, ih c, z m c, Int.add_zero]
theorem S_add {f h : Nat → Int} : ∀ n, S n (fun i => f i + h i) = S n f + S n h
  | 0 => rfl
  | n + 1 => by rw [S, S, S, S_add n]; omega
theorem S_mul {f : Nat → Int} (c : Int) : ∀ n, S n (fun i => c * f i) = c * S n f
  | 0 => by simp [S]
  | n + 1 => by rw [S, S, S_mul c n, Int.mul_add]
theorem S_shift {f : Nat → Int} : ∀ n, S (n + 1) f = f 0 + S n (fun i => f (i + 1))
  | 0 => by simp [S]
  | n + 1 => by
    rw [S, S_shift n, S]
    omega
theorem S_rev {f : Nat → Int} : ∀ n, S (n + 1) f = S (n + 1) (fun i => f (n - i))
  | 0 => rfl
  | n + 1 => by
    rw [S, S_rev n, S_shift (f := fun i => f (n + 1 - i))]
    have : S (n + 1) (fun i => f (n + 1 - (i + 1))) = S (n + 1) (fun i => f (n - i)) := S_ext _ fun i _ => by rw [Nat.add_sub_add_right]
    rw [this]
    show _ + f (n + 1) = f (n + 1 - 0) + _
    rw [Nat.sub_zero]
    omega
theorem S_comm {f : Nat → Nat → Int} (m : Nat) : ∀ n, S n (fun i => S m (fun j => f i j)) = S m (fun j => S n (fun i => f i j))
  | 0 => by simp only [S]; exact (S_zero m).symm
  | n + 1 => by
    rw [S, S_comm m n, ← S_add]
    rfl
/-- what two rows of numbers make, multiplied -/
def cv (f h : Nat → Int) (k : Nat) : Int := S (k + 1) fun i => f i * h (k - i)
theorem cv_comm (f h : Nat → Int) (k : Nat) : cv f h k = cv h f k := by
  unfold cv
  rw [S_rev]
  refine S_ext _ fun i hi => ?_
  rw [Nat.sub_sub_self (by omega), Int.mul_comm]
/-- the loops' sum -/
theorem cv_loop {f h : Nat → Int} {n : Nat} (z : ∀ i, n ≤ i → f i = 0) (k : Nat) : S n (fun a => if a ≤ k then f a * h (k - a) else 0) = cv f h k := by
  have e1 : S (max n (k + 1)) (fun a => if a ≤ k then f a * h (k - a) else 0) = S n (fun a => if a ≤ k then f a * h (k - a) else 0) := S_more (by omega) fun i hi => by
    rw [z i hi, Int.zero_mul]
    split <;> rfl
  have e2 : S (max n (k + 1)) (fun a => if a ≤ k then f a * h (k - a) else 0) = S (k + 1) (fun a => if a ≤ k then f a * h (k - a) else 0) := S_more (by omega) fun i hi => by
    rw [if_neg (by omega)]
  rw [← e1, e2]
  unfold cv
  exact S_ext _ fun i hi => by rw [if_pos (by omega)]
theorem cv_zero {h : Nat → Int} {f : Nat → Int} (z : ∀ i, f i = 0) (k : Nat) : cv f h k = 0 := by
  unfold cv
  rw [S_ext (h := fun _ => 0) _ fun i _ => by rw [z i, Int.zero_mul], S_zero]
theorem g_set {l : List Int} {n : Nat} {c : Int} (h : n < l.length) (k : Nat) : g (l.set n c) k = if k = n then c else g l k := by
  unfold g
  rw [List.getD_eq_getElem?_getD, List.getD_eq_getElem?_getD, List.getElem?_set]
  by_cases e : n = k
  · subst e
    rw [if_pos rfl, if_pos h, if_pos rfl]
    rfl
  · rw [if_neg e, if_neg (fun z => e z.symm)]
theorem rw_set {l : List (List Int)} {n : Nat} {c : List Int} (h : n < l.length) (k : Nat) : rw' (l.set n c) k = if k = n then c else rw' l k := by
  unfold rw'
  rw [List.getD_eq_getElem?_getD, List.getD_eq_getElem?_getD, List.getElem?_set]
  by_cases e : n = k
  · subst e
    rw [if_pos rfl, if_pos h, if_pos rfl]
    rfl
  · rw [if_neg e, if_neg (fun z => e z.symm)]
end K27

set_option Elab.async false
set_option linter.all false
set_option maxRecDepth 100000
set_option maxHeartbeats 4000000
local macro_rules | `(tactic| walk_at "rd") => `(tactic| dsimp only [Evl.tCut, L2.tSeq, L2.tNext, L2.tRet, L2.tRetN, L2.tAsg, L2.gName, L2.tIfS, L2.tDrop, L2.tCons, L2.tNil, L2.tC, L2.tVar, L2.tCB, L2.tAndV, L2.tOrV, L2.tNotV, L2.tB, L2.tTest, L2.tOp, L2.tUn, L2.tNot, L2.tAnd, L2.tOr, L2.tIf, L2.tCall, L2.tTup, L2.tLst, L2.tNotT, L2.tYes, L2.gTup, L2.gCons, L2.gNil, L2.gSub, L2.tBM0, L2.tBM, L2.tWhile, L2.tFor, L2.iRng1, L2.tPar, L2.tPar3, L2.tSl, L2.tNoPart, L2.tPart, Tw.tRevT])
namespace K27
open PySem PySem.Spec PyProof.Rows L2 Tw
theorem seqT {K : PySem.W.Frag} {H H' : Hp} {a : Addr} {xs : List V} (e : Same H H') (h : SqT K H a xs) : SqT K H' a xs := by
  rcases h with (h | ⟨o, h⟩) | h
  · exact .inl (.inl (e _ _ h))
  · exact .inl (.inr ⟨o, e _ _ h⟩)
  · exact .inr h
def SB (b : Nat) (r : List Int) : Prop := ∀ c ∈ r, c.natAbs ≤ b
def spRSum : Sp := fun vs H Q _ => ∃ u v r s b1 b2, vs = [u, v] ∧ Ro H u r ∧ Ro H v s ∧ r.length ≤ 100 ∧ s.length ≤ 100 ∧ SB b1 r ∧ SB b2 s ∧ ∀ z t H', Same H H' → Ro H' z t → okR t → t.length ≤ max r.length s.length → SB (b1 + b2) t → (∀ k, g t k = g r k + g s k) → Q z H'
def spRTimes : Sp := fun vs H Q _ => ∃ u v r s b1 b2, vs = [u, v] ∧ Ro H u r ∧ Ro H v s ∧ r.length ≤ 100 ∧ s.length ≤ 100 ∧ SB b1 r ∧ SB b2 s ∧ (b1 < 2 ^ 900 ∧ b2 < 2 ^ 900) ∧ ∀ z t H', Same H H' → Ro H' z t → okR t → t.length ≤ r.length + s.length → SB (r.length * s.length * (b1 * b2)) t → (∀ k, g t k = cv (g r) (g s) k) → Q z H'
theorem sb_get {b : Nat} {r : List Int} (h : SB b r) (k : Nat) : (r.getD k 0).natAbs ≤ b := by
  rw [List.getD_eq_getElem?_getD]
  cases e : r[k]? with
  | none => simp
  | some x => exact h x (List.mem_of_getElem? e)
theorem sb_trim {b : Nat} {r : List Int} (h : SB b r) : SB b (trimI r) := fun c hc => h c (trimBy_mem _ _ hc)
section
variable {P : Program} {w : World} {K : PySem.W.Frag} {mg : Str → Option Value} {base : Heap}
theorem flat_one (k : Nat) (x : V) : (List.replicate k [x]).flatten = List.replicate k x := by
  induction k with
  | zero => rfl
  | succ k ih => rw [List.replicate_succ, List.flatten_cons, ih, List.replicate_succ]; rfl
theorem pad_get {r : List Int} {N k : Nat} (hk : k < N) (hr : r.length ≤ N) : (r.map V.int ++ List.replicate (N - r.length) (V.int 0))[k]? = some (.int (r.getD k 0)) := by
  rw [List.getD_eq_getElem?_getD]
  rcases Nat.lt_or_ge k r.length with c | c
  · rw [List.getElem?_append_left (by rw [List.length_map]; exact c), List.getElem?_map, List.getElem?_eq_getElem c]
    rfl
  · rw [List.getElem?_append_right (by rw [List.length_map]; exact c), List.getElem?_replicate, if_pos (by rw [List.length_map]; omega), List.getElem?_eq_none c]
    rfl
/-- one + (0,) * (many - len(one)), as it is read -/
theorem pad_rd {pu : Addr} {r : List Int} {N : Nat} {H : Hp} {Q : VK} (e : H pu = some (.tup (r.map V.int))) (hr : r.length ≤ N) (hN : N ≤ 100) (q : ∀ t H', Same H H' → SqT K H' t (r.map V.int ++ List.replicate (N - r.length) (V.int 0)) → Q (.ref t) H') :
    [V.int 0].length ≤ sizeLine ∧ ∀ p, H p = none → ∀ H1, H1 = upd H p (.tup [.int 0]) → rMulT K (.ref p) (.int ((N - r.length : Nat) : Int)) H1 fun x H2 => rCatA K (.ref pu) x H2 Q := by
  refine ⟨sz (by simp), fun p np H1 e1 => ?_⟩
  subst e1
  have s1 := same_new (o := .tup [.int 0]) np
  refine ⟨p, N - r.length, [.int 0], rfl, rfl, SqT.of upd_same, by simp, by omega, by simp, fun t H2 s2 ht => ?_⟩
  rw [flat_one] at ht
  have s12 := s1.trans s2
  refine ⟨pu, t, r.map V.int, _, rfl, rfl, SqT.of (s12 _ _ e), ht, sz (by simp; omega), fun c => ?_, fun c c2 => ?_, fun c c2 p2 np2 => ?_⟩
  · refine q t H2 s12 ?_
    rw [c, List.nil_append]
    exact ht
  · refine q pu H2 s12 ?_
    rw [c2, List.append_nil]
    exact SqT.of (s12 _ _ e)
  · exact q p2 _ (s12.trans (same_new np2)) (SqT.of upd_same)
theorem scRSum : FnScope ["_law_one", "_law_two", "_law_many", "_law_far", "_law_high", "_law_k"] ["_law_one", "_law_two"] (defScope sRSum) := ⟨rfl, rfl, rfl, by decide +kernel, rfl, by decide +kernel, by decide +kernel⟩
theorem ok_rsum (D : Def K mg "_law_row_sum" sRSum ["_law_one", "_law_two"]) (nb : Nb mg) (c1 : Cal P w K mg base "_law_trim" 1 ["_law_some"] spTrim) : Cal P w K mg base "_law_row_sum" 2 ["_law_one", "_law_two"] spRSum := by
  have c2 := c1.imp trim_int
  refine D.ok scRSum (fun vs H Q E h => ?_) (fun f cdv A out s H vs Q E hr h => ?_)
  · obtain ⟨u, v, r, s, b1, b2, rfl, _⟩ := h; rfl
  obtain ⟨u, v, r, t, b1, b2, rfl, hu, hv, lr, lt, br, bt, q⟩ := h
  refine ⟨_, pss_cons (ps_set (i := 2) scRSum.nd rfl (Or.inl rfl) (pe_callB (id := "max") (call_max2 rfl) (by rfl) nb.max (by decide +kernel) (pa_cons (pe_callB (id := "len") (r := rLn K) call_len_seq (by rfl) nb.len PySem.boot_len (pa_cons (pv 0) pa_nil)) (pa_cons (pe_callB (id := "len") (r := rLn K) call_len_seq (by rfl) nb.len PySem.boot_len (pa_cons (pv 1) pa_nil)) pa_nil))))
    (pss_cons (ps_asg (pe_tup (pa_cons (pe_op (r := rCatA K) op_catA (pv 0) (pe_op (r := rMulT K) op_mulT (pe_tup (pa_cons pe_int pa_nil)) (pe_op op_sub (pv 2) (pe_callB (id := "len") (r := rLn K) call_len_seq (by rfl) nb.len PySem.boot_len (pa_cons (pv 0) pa_nil)))))
          (pa_cons (pe_op (r := rCatA K) op_catA (pv 1) (pe_op (r := rMulT K) op_mulT (pe_tup (pa_cons pe_int pa_nil)) (pe_op op_sub (pv 2) (pe_callB (id := "len") (r := rLn K) call_len_seq (by rfl) nb.len PySem.boot_len (pa_cons (pv 1) pa_nil))))) pa_nil)))
        (pg_tup rfl (pgs_cons (pg_name (i := 3) scRSum.nd rfl (Or.inr rfl)) (pgs_cons (pg_name (i := 4) scRSum.nd rfl (Or.inr rfl)) pgs_nil))))
    (pss_one (ps_ret (pe_cal c2 hr (by decide) (by rfl) (pa_cons
        (pe_lc (own := [("_law_k", 5)]) (g := gName 5) (tt := tYes) rfl scRSum.nd (pi_range1 (by rfl) nb.rng (pa_cons (pv 2) pa_nil)) (blkOk_by (N := ["_law_one", "_law_two", "_law_many", "_law_far", "_law_high", "_law_k"]) (sc := defScope sRSum) (by decide +kernel))
            (fun _ _ _ _ _ => pg_name (i := 5) scRSum.nd rfl (Or.inl rfl)) (fun _ _ _ _ _ => pts_nil)
            (fun _ _ _ _ _ => pe_op op_add (pe_ix (r := rIxT K) ix_tup (pv 3) (pv 5) (fun _ _ => rfl)) (pe_ix (r := rIxT K) ix_tup (pv 4) (pv 5) (fun _ _ => rfl)))) pa_nil))))), ?_⟩
  walk_at "rd"
  obtain ⟨pu, rfl, eu⟩ := hu
  obtain ⟨pw, rfl, ev⟩ := hv
  refine ⟨.ref pu, rfl, pu, _, rfl, .inr (SqT.of eu), .ref pw, rfl, pw, _, rfl, .inr (SqT.of ev), _, _, rfl, ?_⟩
  have em : (if ((t.map V.int).length : Int) > ((r.map V.int).length : Int) then ((t.map V.int).length : Int) else ((r.map V.int).length : Int)) = ((max r.length t.length : Nat) : Int) := by
    rw [List.length_map, List.length_map]
    split <;> omega
  rw [em]
  generalize hN : max r.length t.length = N
  have hrN : r.length ≤ N := by omega
  have htN : t.length ≤ N := by omega
  have hN100 : N ≤ 100 := by omega
  have e1 : (N : Int) - ((r.map V.int).length : Int) = ((N - r.length : Nat) : Int) := by rw [List.length_map]; omega
  have e2 : (N : Int) - ((t.map V.int).length : Int) = ((N - t.length : Nat) : Int) := by rw [List.length_map]; omega
  refine ⟨.ref pu, rfl, sz (by simp), fun p np => ?_⟩
  have s1 := same_new (o := .tup [.int 0]) np
  refine ⟨.int N, rfl, .ref pu, rfl, pu, _, rfl, .inr (SqT.of (s1 _ _ eu)), _, _, rfl, rfl, ?_⟩
  walk_at "rd"
  rw [e1]
  refine (pad_rd (K := K) eu hrN hN100 (fun t1 H1 s1 h1 => ?_)).2 p np _ rfl
  refine ⟨.ref pw, rfl, sz (by simp), fun p2 np2 => ?_⟩
  have s2 := same_new (o := .tup [.int 0]) np2
  refine ⟨.int N, rfl, .ref pw, rfl, pw, _, rfl, .inr (SqT.of ((s1.trans s2) _ _ ev)), _, _, rfl, rfl, ?_⟩
  walk_at "rd"
  rw [e2]
  refine (pad_rd (K := K) (s1 _ _ ev) htN hN100 (fun t2 H2 s2 h2 => ?_)).2 p2 np2 _ rfl
  refine ⟨sz (by simp), fun p3 np3 => ⟨p3, _, rfl, SqT.of upd_same, rfl, _, _, rfl, _, _, rfl, rfl, ?_⟩⟩
  have s3 := same_new (o := .tup [.ref t1, .ref t2]) np3
  have h1' := seqT (s2.trans s3) h1
  have h2' := seqT s3 h2
  refine lc_rng (n := N) (fun k => V.int (r.getD k 0 + t.getD k 0)) (fun R hR => ⟨.int N, rfl, (N : Int), rfl, by omega, by omega, hR⟩) (by omega) (fun x => wipeJ _ _ _) (fun k H4 hk s4 R kR => ?_) fun L H4 s4 nL eL => ?_
  · walk_at "rd"
    rw [Int.zero_add]
    refine ⟨.ref t1, rfl, .int k, rfl, t1, _, k, .int (r.getD k 0), rfl, rfl, seqT s4 h1', atI_nat (pad_get hk hrN), .ref t2, rfl, .int k, rfl, t2, _, k, .int (t.getD k 0), rfl, rfl, seqT s4 h2', atI_nat (pad_get hk htN), _, _, rfl, rfl, kR _ (Same.refl _)⟩
  · refine ⟨L, (List.range N).map fun k => r.getD k 0 + t.getD k 0, rfl, by rw [eL, List.map_map]; rfl, fun z H5 s5 r5 => ?_⟩
    refine q z _ H5 (s1.trans (s2.trans (s3.trans (s4.trans s5)))) r5 (okR_trim _) ?_ (sb_trim fun c hc => ?_) fun k => ?_
    · refine Nat.le_trans (trimBy_len _ _) ?_
      rw [List.length_map, List.length_range]
      omega
    · obtain ⟨k, _, rfl⟩ := List.mem_map.mp hc
      exact Nat.le_trans (Int.natAbs_add_le _ _) (Nat.add_le_add (sb_get br k) (sb_get bt k))
    · rw [g_trim]
      rcases Nat.lt_or_ge k N with c | c
      · rw [g_some (by rw [List.length_map, List.length_range]; exact c), List.getElem_map, List.getElem_range]
      · rw [g_none (by rw [List.length_map, List.length_range]; exact c), g_none (show r.length ≤ k by omega), g_none (show t.length ≤ k by omega)]
        rfl
end
end K27

set_option Elab.async false
set_option linter.all false
set_option maxRecDepth 100000
set_option maxHeartbeats 4000000
local macro_rules | `(tactic| walk_at "rd") => `(tactic| dsimp only [Evl.tCut, L2.tSeq, L2.tNext, L2.tRet, L2.tRetN, L2.tAsg, L2.gName, L2.tIfS, L2.tDrop, L2.tCons, L2.tNil, L2.tC, L2.tVar, L2.tCB, L2.tAndV, L2.tOrV, L2.tNotV, L2.tB, L2.tTest, L2.tOp, L2.tUn, L2.tNot, L2.tAnd, L2.tOr, L2.tIf, L2.tCall, L2.tTup, L2.tLst, L2.tNotT, L2.tYes, L2.gTup, L2.gCons, L2.gNil, L2.gSub, L2.tBM0, L2.tBM, L2.tWhile, L2.tFor, L2.iRng1, L2.tPar, L2.tPar3, L2.tSl, L2.tNoPart, L2.tPart, Tw.tRevT])
namespace K27
open PySem PySem.Spec PyProof.Rows L2 Tw
theorem SB.up {a b : Nat} {r : List Int} (h : SB a r) (l : a ≤ b) : SB b r := fun c hc => Nat.le_trans (h c hc) l
theorem sb_set {b x : Nat} {r : List Int} {c : Int} {k : Nat} (h : SB b r) (hc : c.natAbs ≤ x) (hb : b ≤ x) : SB x (r.set k c) := fun y hy => by
  rcases List.mem_or_eq_of_mem_set hy with hy | hy
  · exact Nat.le_trans (h y hy) hb
  · rw [hy]; exact hc
theorem map_set' (l : List Int) (k : Nat) (c : Int) : (l.map V.int).set k (V.int c) = (l.set k c).map V.int := by rw [List.map_set]
theorem kt_same_upd {H H' : Hp} {L : Addr} {o : HO} (s : Same H H') (n : H L = none) : Same H (upd H' L o) := same_upd s n
section
variable {P : Program} {w : World} {K : PySem.W.Frag} {mg : Str → Option Value} {base : Heap}
theorem scRTimes : FnScope ["_law_one", "_law_two", "_law_made", "_law_k", "_law_n"] ["_law_one", "_law_two"] (defScope sRTimes) := ⟨rfl, rfl, rfl, by decide +kernel, rfl, by decide +kernel, by decide +kernel⟩
theorem ok_rtimes (D : Def K mg "_law_row_times" sRTimes ["_law_one", "_law_two"]) (nb : Nb mg) (c1 : Cal P w K mg base "_law_trim" 1 ["_law_some"] spTrim) : Cal P w K mg base "_law_row_times" 2 ["_law_one", "_law_two"] spRTimes := by
  have c2 := c1.imp trim_int
  refine D.ok scRTimes (fun vs H Q E h => ?_) (fun f cdv A out s H vs Q E hr h => ?_)
  · obtain ⟨u, v, r, s, b1, b2, rfl, _⟩ := h; rfl
  obtain ⟨u, v, r, t, b1, b2, rfl, hu, hv, lr, lt, br, bt, b64, q⟩ := h
  refine ⟨_, pss_cons (ps_set (i := 2) scRTimes.nd rfl (Or.inl rfl) (pe_op op_rep (pe_lst (pa_cons pe_int pa_nil)) (pe_op op_add (pe_callB (id := "len") (r := rLn K) call_len_seq (by rfl) nb.len PySem.boot_len (pa_cons (pv 0) pa_nil)) (pe_callB (id := "len") (r := rLn K) call_len_seq (by rfl) nb.len PySem.boot_len (pa_cons (pv 1) pa_nil)))))
    (pss_cons (ps_for PassesOwn.never rfl (pi_range1 (by rfl) nb.rng (pa_cons (pe_callB (id := "len") (r := rLn K) call_len_seq (by rfl) nb.len PySem.boot_len (pa_cons (pv 0) pa_nil)) pa_nil)) (pg_name (i := 3) scRTimes.nd rfl (Or.inl rfl))
      (pss_one (ps_for PassesOwn.never rfl (pi_range1 (by rfl) nb.rng (pa_cons (pe_callB (id := "len") (r := rLn K) call_len_seq (by rfl) nb.len PySem.boot_len (pa_cons (pv 1) pa_nil)) pa_nil)) (pg_name (i := 4) scRTimes.nd rfl (Or.inl rfl))
        (pss_one (ps_asg (pe_op op_add (pe_ix ix_list (pv 2) (pe_op op_add (pv 3) (pv 4)) (fun _ _ => rfl)) (pe_op op_mulW (pe_ix ix_tup (pv 0) (pv 3) (fun _ _ => rfl)) (pe_ix ix_tup (pv 1) (pv 4) (fun _ _ => rfl))))
          (pg_sub (pv 2) (pe_op op_add (pv 3) (pv 4)) set_list))))))
    (pss_one (ps_ret (pe_cal c2 hr (by decide) (by rfl) (pa_cons (pv 2) pa_nil))))), ?_⟩
  walk_at "rd"
  obtain ⟨pu, rfl, eu⟩ := hu
  obtain ⟨pw, rfl, ev⟩ := hv
  refine ⟨sz (by simp), fun L0 nL0 => ?_⟩
  have s0 := same_new (o := .lst [.int 0]) nL0
  refine ⟨.ref pu, rfl, pu, _, rfl, .inr (SqT.of (s0 _ _ eu)), .ref pw, rfl, pw, _, rfl, .inr (SqT.of (s0 _ _ ev)), _, _, rfl, rfl, L0, _, _, rfl, rfl, upd_same, by rw [List.length_map]; omega, by rw [List.length_map, List.length_map]; omega, ?_, fun L nL => ?_⟩
  · have := sz (n := ((r.map V.int).length + (t.map V.int).length)) (by rw [List.length_map, List.length_map]; omega)
    show 1 * _ ≤ _
    rw [Nat.one_mul]
    omega
  have s1 := s0.trans (same_new (o := .lst (List.replicate ((((r.map V.int).length : Nat) : Int) + (((t.map V.int).length : Nat) : Int)).toNat [V.int 0]).flatten) nL)
  have nL' : H L = none := s0.free nL
  have eL : upd (upd H L0 (.lst [.int 0])) L (.lst (List.replicate ((((r.map V.int).length : Nat) : Int) + (((t.map V.int).length : Nat) : Int)).toNat [V.int 0]).flatten) L = some (.lst ((List.replicate (r.length + t.length) (0 : Int)).map V.int)) := by
    rw [upd_same, flat_one, List.map_replicate, List.length_map, List.length_map]
    congr 3
  generalize upd (upd H L0 (.lst [.int 0])) L _ = H1 at s1 eL ⊢
  refine ⟨.ref pu, rfl, pu, _, rfl, .inr (SqT.of (s1 _ _ eu)), ((r.map V.int).length : Int), rfl, by omega, by rw [List.length_map]; omega, ?_⟩
  rw [show (((r.map V.int).length : Nat) : Int).toNat = r.length from by rw [List.length_map]; omega]
  refine for_rng (lo := 0) (n := r.length) (fun i σ H' => ∃ (x3 x4 : Option V) (l : List Int), σ = [some (.ref pu), some (.ref pw), some (.ref L), x3, x4] ∧ Same H H' ∧ H' L = some (.lst (l.map V.int)) ∧ l.length = r.length + t.length ∧ SB (i * t.length * (b1 * b2)) l ∧ ∀ k, g l k = S i (fun a => if a ≤ k then g r a * g t (k - a) else 0)) ?_ ?_ ?_
  · exact ⟨none, none, _, rfl, s1, eL, by simp, fun c hc => by rw [(List.mem_replicate.mp hc).2]; simp, fun k => by
      unfold g
      rw [List.getD_eq_getElem?_getD, List.getElem?_replicate]
      split <;> rfl⟩
  · rintro i σ H2 hi ⟨x3, x4, l, rfl, s2, e2, ll, bl, cl⟩
    walk_at "rd"
    refine ⟨.ref pw, rfl, pw, _, rfl, .inr (SqT.of (s2 _ _ ev)), ((t.map V.int).length : Int), rfl, by omega, by rw [List.length_map]; omega, ?_⟩
    rw [show (((t.map V.int).length : Nat) : Int).toNat = t.length from by rw [List.length_map]; omega]
    refine for_rng (lo := 0) (n := t.length) (fun j σ H' => ∃ (x4 : Option V) (l : List Int), σ = [some (.ref pu), some (.ref pw), some (.ref L), some (.int (0 + (i : Int))), x4] ∧ Same H H' ∧ H' L = some (.lst (l.map V.int)) ∧ l.length = r.length + t.length ∧ SB ((i * t.length + j) * (b1 * b2)) l ∧ ∀ k, g l k = S i (fun a => if a ≤ k then g r a * g t (k - a) else 0) + (if i ≤ k ∧ k - i < j then g r i * g t (k - i) else 0)) ?_ ?_ ?_
    · exact ⟨x4, l, rfl, s2, e2, ll, bl, fun k => by rw [cl k, if_neg (by omega), Int.add_zero]⟩
    · rintro j σ H3 hj ⟨x4, l, rfl, s3, e3, ll, bl, cl⟩
      walk_at "rd"
      rw [Int.zero_add, Int.zero_add]
      have hij : i + j < l.length := by omega
      have ci := sb_get br i
      have cj := sb_get bt j
      have gl : (l.map V.int)[i + j]? = some (.int (l.getD (i + j) 0)) := by rw [List.getElem?_map, List.getD_eq_getElem?_getD, List.getElem?_eq_getElem hij]; rfl
      have gr : (r.map V.int)[i]? = some (.int (r.getD i 0)) := by rw [List.getElem?_map, List.getD_eq_getElem?_getD, List.getElem?_eq_getElem hi]; rfl
      have gt : (t.map V.int)[j]? = some (.int (t.getD j 0)) := by rw [List.getElem?_map, List.getD_eq_getElem?_getD, List.getElem?_eq_getElem hj]; rfl
      have ij : (i : Int) + (j : Int) = ((i + j : Nat) : Int) := by omega
      refine ⟨.ref L, rfl, .int i, rfl, .int j, rfl, i, j, rfl, rfl, ?_⟩
      walk_at "rd"
      rw [ij]
      refine ⟨L, _, _, _, rfl, rfl, SqL.of e3, atI_nat gl, .ref pu, rfl, .int i, rfl, pu, _, _, _, rfl, rfl, SqT.of (s3 _ _ eu), atI_nat gr, .ref pw, rfl, .int j, rfl, pw, _, _, _, rfl, rfl, SqT.of (s3 _ _ ev), atI_nat gt, _, _, rfl, rfl, wide_mul (a := 900) (b := 900) (Nat.lt_of_le_of_lt (sb_get br i) b64.1) (Nat.lt_of_le_of_lt (sb_get bt j) b64.2) (by decide) (by decide) (by decide), _, _, rfl, rfl, .ref L, rfl, .int i, rfl, .int j, rfl, i, j, rfl, rfl, ?_⟩
      walk_at "rd"
      rw [ij]
      refine ⟨L, _, _, i + j, rfl, rfl, e3, Evl.ixN_nat (by rw [List.length_map]; exact hij), some (.int j), l.set (i + j) (l.getD (i + j) 0 + r.getD i 0 * t.getD j 0), rfl, same_upd s3 nL', ?_, by rw [List.length_set]; exact ll, ?_, fun k => ?_⟩
      · rw [upd_same, map_set']
      · refine sb_set bl ?_ ?_
        · refine Nat.le_trans (Int.natAbs_add_le _ _) ?_
          rw [Int.natAbs_mul, ← Nat.add_assoc, Nat.add_mul (i * t.length + j), Nat.one_mul]
          exact Nat.add_le_add (sb_get bl _) (Nat.mul_le_mul ci cj)
        · exact Nat.mul_le_mul_right _ (by omega)
      · rw [g_set hij, cl k]
        by_cases c : k = i + j
        · subst c
          rw [if_pos rfl, show l.getD (i + j) 0 = g l (i + j) from rfl, cl (i + j), if_neg (by omega), if_pos (by omega), Int.add_zero, show i + j - i = j from by omega]
        · rw [if_neg c]
          congr 1
          by_cases c2 : i ≤ k ∧ k - i < j
          · rw [if_pos c2, if_pos (by omega)]
          · rw [if_neg c2, if_neg (by omega)]
    · rintro σ H3 ⟨x4, l, rfl, s3, e3, ll, bl, cl⟩
      refine ⟨_, x4, l, rfl, s3, e3, ll, by rw [Nat.add_mul i 1, Nat.one_mul]; exact bl, fun k => ?_⟩
      rw [cl k, S]
      congr 1
      by_cases c : i ≤ k
      · rw [if_pos c]
        by_cases c2 : k - i < t.length
        · rw [if_pos ⟨c, c2⟩]
        · rw [if_neg (by omega), g_none (show t.length ≤ k - i by omega), Int.mul_zero]
      · rw [if_neg c, if_neg (by omega)]
  · rintro σ H2 ⟨x3, x4, l, rfl, s2, e2, ll, bl, cl⟩
    refine ⟨.ref L, rfl, L, l, rfl, e2, fun z H3 s3 r3 => q z _ H3 (s2.trans s3) r3 (okR_trim _) ?_ (sb_trim bl) fun k => by rw [g_trim, cl k, cv_loop (fun i hi => g_none hi)]⟩
    have : (trimI l).length ≤ l.length := trimBy_len _ l
    omega
end
end K27

set_option Elab.async false
set_option linter.all false
set_option maxRecDepth 100000
set_option maxHeartbeats 4000000
local macro_rules | `(tactic| walk_at "rd") => `(tactic| dsimp only [Evl.tCut, L2.tSeq, L2.tNext, L2.tRet, L2.tRetN, L2.tAsg, L2.gName, L2.tIfS, L2.tDrop, L2.tCons, L2.tNil, L2.tC, L2.tVar, L2.tCB, L2.tAndV, L2.tOrV, L2.tNotV, L2.tB, L2.tTest, L2.tOp, L2.tUn, L2.tNot, L2.tAnd, L2.tOr, L2.tIf, L2.tCall, L2.tTup, L2.tLst, L2.tNotT, L2.tYes, L2.gTup, L2.gCons, L2.gNil, L2.gSub, L2.tBM0, L2.tBM, L2.tWhile, L2.tFor, L2.iRng1, L2.tPar, L2.tPar3, L2.tSl, L2.tNoPart, L2.tPart, Tw.tRevT])
namespace K27
open PySem PySem.Spec PyProof.Rows L2 Tw
def cv2 (p q : List (List Int)) (i j : Nat) : Int := S (i + 1) fun a => cv (co p a) (co q (i - a)) j
theorem cv2_loop {p q : List (List Int)} (i j : Nat) : S p.length (fun a => if a ≤ i then cv (co p a) (co q (i - a)) j else 0) = cv2 p q i j := by
  have e1 : S (max p.length (i + 1)) (fun a => if a ≤ i then cv (co p a) (co q (i - a)) j else 0) = S p.length (fun a => if a ≤ i then cv (co p a) (co q (i - a)) j else 0) := S_more (by omega) fun a ha => by
    rw [cv_zero (fun k => by unfold co; rw [rw_none ha]; rfl)]
    split <;> rfl
  have e2 : S (max p.length (i + 1)) (fun a => if a ≤ i then cv (co p a) (co q (i - a)) j else 0) = S (i + 1) (fun a => if a ≤ i then cv (co p a) (co q (i - a)) j else 0) := S_more (by omega) fun a ha => by
    rw [if_neg (by omega)]
  rw [← e1, e2]
  exact S_ext _ fun a ha => by rw [if_pos (by omega)]
def spPTimes : Sp := fun vs H Q _ => ∃ u v p q b1 b2, vs = [u, v] ∧ Po H u p ∧ Po H v q ∧ (∃ a, We a H) ∧ Bd 4 b1 p ∧ Bd 4 b2 q ∧ (b1 < 2 ^ 900 ∧ b2 < 2 ^ 900) ∧ ∀ z t H', Same H H' → Po H' z t → okP t → Bd 8 (16 * (16 * (b1 * b2))) t → (∀ i j, co t i j = cv2 p q i j) → Q z H'
section
variable {P : Program} {w : World} {K : PySem.W.Frag} {mg : Str → Option Value} {base : Heap}
theorem scPTimes : FnScope ["_law_one", "_law_two", "_law_made", "_law_k", "_law_n"] ["_law_one", "_law_two"] (defScope sPTimes) := ⟨rfl, rfl, rfl, by decide +kernel, rfl, by decide +kernel, by decide +kernel⟩
theorem ok_ptimes (D : Def K mg "_law_poly_times" sPTimes ["_law_one", "_law_two"]) (nb : Nb mg) (c1 : Cal P w K mg base "_law_trim" 1 ["_law_some"] spTrim) (c3 : Cal P w K mg base "_law_row_sum" 2 ["_law_one", "_law_two"] spRSum) (c4 : Cal P w K mg base "_law_row_times" 2 ["_law_one", "_law_two"] spRTimes) :
    Cal P w K mg base "_law_poly_times" 3 ["_law_one", "_law_two"] spPTimes := by
  have c2 := c1.imp trim_rows
  refine D.ok scPTimes (fun vs H Q E h => ?_) (fun f cdv A out s H vs Q E hr h => ?_)
  · obtain ⟨u, v, r, s, b1, b2, rfl, _⟩ := h; rfl
  obtain ⟨u, v, p, q, b1, b2, rfl, hu, hv, ⟨wa, hw⟩, bp, bq, b64, hQ⟩ := h
  have lq := bq.1
  refine ⟨_, pss_cons (ps_set (i := 2) scPTimes.nd rfl (Or.inl rfl) (pe_op op_rep (pe_lst (pa_cons (pe_tup pa_nil) pa_nil)) (pe_op op_add (pe_callB (id := "len") (r := rLn K) call_len_seq (by rfl) nb.len PySem.boot_len (pa_cons (pv 0) pa_nil)) (pe_callB (id := "len") (r := rLn K) call_len_seq (by rfl) nb.len PySem.boot_len (pa_cons (pv 1) pa_nil)))))
    (pss_cons (ps_for PassesOwn.never rfl (pi_range1 (by rfl) nb.rng (pa_cons (pe_callB (id := "len") (r := rLn K) call_len_seq (by rfl) nb.len PySem.boot_len (pa_cons (pv 0) pa_nil)) pa_nil)) (pg_name (i := 3) scPTimes.nd rfl (Or.inl rfl))
      (pss_one (ps_for PassesOwn.never rfl (pi_range1 (by rfl) nb.rng (pa_cons (pe_callB (id := "len") (r := rLn K) call_len_seq (by rfl) nb.len PySem.boot_len (pa_cons (pv 1) pa_nil)) pa_nil)) (pg_name (i := 4) scPTimes.nd rfl (Or.inl rfl))
        (pss_one (ps_asg (pe_cal c3 hr (by decide) (by rfl) (pa_cons (pe_ix ix_list (pv 2) (pe_op op_add (pv 3) (pv 4)) (fun _ _ => rfl)) (pa_cons (pe_cal c4 hr (by decide) (by rfl) (pa_cons (pe_ix ix_tup (pv 0) (pv 3) (fun _ _ => rfl)) (pa_cons (pe_ix ix_tup (pv 1) (pv 4) (fun _ _ => rfl)) pa_nil))) pa_nil)))
          (pg_sub (pv 2) (pe_op op_add (pv 3) (pv 4)) set_list))))))
    (pss_one (ps_ret (pe_cal c2 hr (by decide) (by rfl) (pa_cons (pv 2) pa_nil))))), ?_⟩
  walk_at "rd"
  obtain ⟨pu, xs, rfl, eu, hx⟩ := hu
  obtain ⟨pw, ws, rfl, ev, hy⟩ := hv
  have lp := bp.1
  have lx := hx.1
  have ly := hy.1
  refine ⟨sz (by simp), fun e0 ne0 => ?_⟩
  have s00 := same_new (o := .tup []) ne0
  have re0 : Ro (upd H e0 (.tup [])) (.ref e0) [] := ⟨e0, rfl, upd_same⟩
  generalize upd H e0 (.tup []) = H0 at s00 re0 ⊢
  refine ⟨sz (by simp), fun L0 nL0 => ?_⟩
  have s0 := s00.trans (same_new (o := .lst [.ref e0]) nL0)
  refine ⟨.ref pu, rfl, pu, _, rfl, .inr (SqT.of (s0 _ _ eu)), .ref pw, rfl, pw, _, rfl, .inr (SqT.of (s0 _ _ ev)), _, _, rfl, rfl, L0, _, _, rfl, rfl, upd_same, by omega, by omega, ?_, fun L nL => ?_⟩
  · have := sz (n := (xs.length + ws.length)) (by omega)
    show 1 * _ ≤ _
    rw [Nat.one_mul]
    omega
  have s1 := s0.trans (same_new (o := .lst (List.replicate (((xs.length : Nat) : Int) + ((ws.length : Nat) : Int)).toNat [V.ref e0]).flatten) nL)
  have nL' : H L = none := s0.free nL
  have eL : upd (upd H0 L0 (.lst [.ref e0])) L (.lst (List.replicate (((xs.length : Nat) : Int) + ((ws.length : Nat) : Int)).toNat [V.ref e0]).flatten) L = some (.lst (List.replicate (p.length + q.length) (V.ref e0))) := by
    rw [upd_same, flat_one, lx, ly]
    congr 3
  have rL : RoA (upd (upd H0 L0 (.lst [.ref e0])) L (.lst (List.replicate (((xs.length : Nat) : Int) + ((ws.length : Nat) : Int)).toNat [V.ref e0]).flatten)) (List.replicate (p.length + q.length) (V.ref e0)) (List.replicate (p.length + q.length) []) := by
    refine ⟨by simp, fun i v e => ?_⟩
    rw [List.getElem?_replicate] at e
    split at e
    · cases e
      refine ⟨[], by rw [List.getElem?_replicate, if_pos ‹_›], ?_⟩
      exact re0.kt ((Kt.of (same_new nL0)).trans (Kt.of (same_new nL)))
    · cases e
  generalize upd (upd H0 L0 (.lst [.ref e0])) L _ = H1 at s1 eL rL ⊢
  refine ⟨.ref pu, rfl, pu, _, rfl, .inr (SqT.of (s1 _ _ eu)), (xs.length : Int), rfl, by omega, by omega, ?_⟩
  rw [show ((xs.length : Nat) : Int).toNat = p.length from by omega]
  refine for_rng (lo := 0) (n := p.length) (fun i σ H' => ∃ (x3 x4 : Option V) (ys : List V) (rs : List (List Int)), σ = [some (.ref pu), some (.ref pw), some (.ref L), x3, x4] ∧ Same H H' ∧ H' L = some (.lst ys) ∧ RoA H' ys rs ∧ rs.length = p.length + q.length ∧ (∀ r ∈ rs, okR r ∧ r.length ≤ 8 ∧ SB (i * q.length * (16 * (b1 * b2))) r) ∧ ∀ i' j', co rs i' j' = S i (fun a => if a ≤ i' then cv (co p a) (co q (i' - a)) j' else 0)) ?_ ?_ ?_
  · refine ⟨none, none, _, _, rfl, s1, eL, rL, by simp, fun r hr => ?_, fun i' j' => ?_⟩
    · rw [(List.mem_replicate.mp hr).2]
      exact ⟨fun c hc => by simp at hc, by simp, fun c hc => by simp at hc⟩
    · unfold co rw'
      rw [List.getD_eq_getElem?_getD, List.getElem?_replicate]
      split <;> rfl
  · rintro i σ H2 hi ⟨x3, x4, ys, rs, rfl, s2, e2, r2, ll, bl, cl⟩
    walk_at "rd"
    refine ⟨.ref pw, rfl, pw, _, rfl, .inr (SqT.of (s2 _ _ ev)), (ws.length : Int), rfl, by omega, by omega, ?_⟩
    rw [show ((ws.length : Nat) : Int).toNat = q.length from by omega]
    refine for_rng (lo := 0) (n := q.length) (fun j σ H' => ∃ (x4 : Option V) (ys : List V) (rs : List (List Int)), σ = [some (.ref pu), some (.ref pw), some (.ref L), some (.int (0 + (i : Int))), x4] ∧ Same H H' ∧ H' L = some (.lst ys) ∧ RoA H' ys rs ∧ rs.length = p.length + q.length ∧ (∀ r ∈ rs, okR r ∧ r.length ≤ 8 ∧ SB ((i * q.length + j) * (16 * (b1 * b2))) r) ∧ ∀ i' j', co rs i' j' = S i (fun a => if a ≤ i' then cv (co p a) (co q (i' - a)) j' else 0) + (if i ≤ i' ∧ i' - i < j then cv (co p i) (co q (i' - i)) j' else 0)) ?_ ?_ ?_
    · exact ⟨x4, ys, rs, rfl, s2, e2, r2, ll, bl, fun i' j' => by rw [cl i' j', if_neg (by omega), Int.add_zero]⟩
    · rintro j σ H3 hj ⟨x4, ys, rs, rfl, s3, e3, r3, ll, bl, cl⟩
      walk_at "rd"
      rw [Int.zero_add, Int.zero_add]
      have hij : i + j < rs.length := by omega
      have ij : (i : Int) + (j : Int) = ((i + j : Nat) : Int) := by omega
      obtain ⟨y, gy, ry⟩ := r3.get hij
      obtain ⟨a, ga, ra⟩ := (hx.kt (Kt.of s3)).get hi
      obtain ⟨b, gb, rb⟩ := (hy.kt (Kt.of s3)).get hj
      have my := bl rs[i + j] (List.getElem_mem _)
      have ma := bp.2 p[i] (List.getElem_mem _)
      have mb := bq.2 q[j] (List.getElem_mem _)
      refine ⟨.ref L, rfl, .int i, rfl, .int j, rfl, i, j, rfl, rfl, ?_⟩
      walk_at "rd"
      rw [ij]
      refine ⟨L, _, _, y, rfl, rfl, SqL.of e3, atI_nat gy, .ref pu, rfl, .int i, rfl, pu, _, _, a, rfl, rfl, SqT.of (s3 _ _ eu), atI_nat ga, .ref pw, rfl, .int j, rfl, pw, _, _, b, rfl, rfl, SqT.of (s3 _ _ ev), atI_nat gb, ?_⟩
      refine ⟨a, b, p[i], q[j], b1, b2, rfl, ra, rb, by omega, by omega, ma.2, mb.2, b64, fun z t H4 s4 rz okz lz bz cz => ?_⟩
      have bz2 : SB (16 * (b1 * b2)) t := bz.up (Nat.mul_le_mul_right _ (show p[i].length * q[j].length ≤ 16 from Nat.mul_le_mul ma.1 mb.1))
      refine ⟨y, z, rs[i + j], t, _, _, rfl, ry.kt (Kt.of s4), rz, by omega, by omega, my.2.2, bz2, fun z2 t2 H5 s5 rz2 okz2 lz2 bz2 cz2 => ?_⟩
      refine ⟨.ref L, rfl, .int i, rfl, .int j, rfl, i, j, rfl, rfl, ?_⟩
      walk_at "rd"
      rw [ij]
      have e5 := (s4.trans s5) _ _ e3
      refine ⟨L, _, _, i + j, rfl, rfl, e5, Evl.ixN_nat (by rw [r3.1]; exact hij), some (.int j), ys.set (i + j) z2, rs.set (i + j) t2, rfl, same_upd (s3.trans (s4.trans s5)) nL', upd_same, ?_, by rw [List.length_set]; exact ll, fun r hr => ?_, fun i' j' => ?_⟩
      · exact ((r3.kt (Kt.of (s4.trans s5))).set (i + j) rz2).kt (kt_upd e5)
      · have eb : (i * q.length + j) * (16 * (b1 * b2)) + 16 * (b1 * b2) = (i * q.length + (j + 1)) * (16 * (b1 * b2)) := by
          rw [← Nat.add_assoc, Nat.add_mul (i * q.length + j), Nat.one_mul]
        rcases List.mem_or_eq_of_mem_set hr with hr | hr
        · have m := bl r hr
          exact ⟨m.1, m.2.1, m.2.2.up (by omega)⟩
        · rw [hr]
          exact ⟨okz2, by omega, by rw [← eb]; exact bz2⟩
      · unfold co
        rw [rw_set hij]
        have ci := cl i' j'
        unfold co at ci
        by_cases c : i' = i + j
        · subst c
          rw [if_pos rfl, cz2 j', cz j', ← rw_some hij, ci, if_neg (by omega), if_pos (by omega), Int.add_zero, show i + j - i = j from by omega, rw_some hi, rw_some hj]
        · rw [if_neg c, ci]
          congr 1
          by_cases c2 : i ≤ i' ∧ i' - i < j
          · rw [if_pos c2, if_pos (by omega)]
          · rw [if_neg c2, if_neg (by omega)]
    · rintro σ H3 ⟨x4, ys, rs, rfl, s3, e3, r3, ll, bl, cl⟩
      refine ⟨_, x4, ys, rs, rfl, s3, e3, r3, ll, by rw [Nat.add_mul i 1, Nat.one_mul]; exact bl, fun i' j' => ?_⟩
      rw [cl i' j', S]
      congr 1
      by_cases c : i ≤ i'
      · rw [if_pos c]
        by_cases c2 : i' - i < q.length
        · rw [if_pos ⟨c, c2⟩]
        · rw [if_neg (by omega), cv_comm, cv_zero (fun k => by unfold co; rw [rw_none (show q.length ≤ i' - i by omega)]; rfl)]
      · rw [if_neg c, if_neg (by omega)]
  · rintro σ H2 ⟨x3, x4, ys, rs, rfl, s2, e2, r2, ll, bl, cl⟩
    refine ⟨.ref L, rfl, L, ys, rs, rfl, e2, r2, ⟨wa, hw.to s2⟩, fun z H3 s3 r3 => hQ z _ H3 (s2.trans s3) r3 (okP_trim fun r hr => (bl r hr).1) ⟨?_, fun r hr => ?_⟩ fun i' j' => by unfold co; rw [rw_trim]; exact (cl i' j').trans (cv2_loop i' j')⟩
    · have : (trimP rs).length ≤ rs.length := trimBy_len _ rs
      omega
    · have m := bl r (trimBy_mem _ _ hr)
      refine ⟨by omega, m.2.2.up ?_⟩
      refine Nat.mul_le_mul_right _ ?_
      have := Nat.mul_le_mul lp lq
      omega
end
end K27

set_option Elab.async false
set_option linter.all false
set_option maxRecDepth 100000
set_option maxHeartbeats 4000000
/-! // of ints of any size -/
namespace K27
open PySem PySem.Spec PyProof.Rows L2 Tw
/-- nobody looks on while a great division runs -/
def Se (X : Cx) : Prop := X.base.NoSeer ∧ X.prog.given.tree = none ∧ ∃ e l, X.stack = e :: l ∧ e.scope.isGenerator = false ∧ e.scope.isCoroutine = false ∧ e.builtins = builtinsNs ∧ e.globals = mainGlobals
theorem se_mk {X : Cx} {e : Env} {l : List Env} (hN : X.base.NoSeer) (ht : X.prog.given.tree = none) (hs : X.stack = e :: l) (h : e.scope.isGenerator = false ∧ e.scope.isCoroutine = false ∧ e.builtins = builtinsNs ∧ e.globals = mainGlobals) : Se X := ⟨hN, ht, e, l, hs, h⟩
theorem op_fdivP {X : Cx} {k : Nat} (h : Se X) (hr : Room k X.A) (hk : 32 ≤ k) : OpR X (binaryOp .FloorDiv) (rI (fun _ j => j ≠ 0) fun i j => .int (i.fdiv j)) := by
  intro pins s σ H x y v u Q I rx ry h'
  obtain ⟨i, j, rfl, rfl, hc, q⟩ := h'
  obtain ⟨t, rfl⟩ := rx
  obtain ⟨t', rfl⟩ := ry
  obtain ⟨hN, ht, e, l, hs, hg, hco, hb, hgl⟩ := h
  have hfr : X.A.frames = some (e :: l) := by rw [I.ok.frames, hs]
  refine floordiv_int hc ⟨.int (i.fdiv j), H, I.tok _, ⟨_, rfl⟩, q⟩ (.inr ?_)
  exact PylongRoom.of I.nolimit (by have := hr.dp; show _ + 100 < _; omega) (SeerAt.of (hN.keeps fun b o e => (I.bs b o e).1) ht hfr hg hco hb hgl)
end K27

set_option Elab.async false
set_option linter.all false
set_option maxRecDepth 100000
set_option maxHeartbeats 4000000
/-! values of rows at whole numbers, sizes, expressions over rows -/
namespace K27
/-- the value -/
def ev (x : Int) : List Int → Int
  | [] => 0
  | c :: r => c + x * ev x r
/-- the sum of the sizes -/
def nm : List Int → Nat
  | [] => 0
  | c :: r => c.natAbs + nm r
def addR : List Int → List Int → List Int
  | [], s => s
  | r, [] => r
  | a :: r, b :: s => (a + b) :: addR r s
def sclR (c : Int) (r : List Int) : List Int := r.map (c * ·)
def mulR : List Int → List Int → List Int
  | [], _ => []
  | a :: r, s => addR (sclR a s) (0 :: mulR r s)
theorem addR_nil (r : List Int) : addR r [] = r := by cases r <;> rfl
theorem ev_add (x : Int) : ∀ r s : List Int, ev x (addR r s) = ev x r + ev x s
  | [], s => by rw [addR]; simp [ev]
  | a :: r, [] => by rw [addR_nil]; simp [ev]
  | a :: r, b :: s => by rw [addR, ev, ev, ev, ev_add x r s, Int.mul_add]; omega
theorem ev_scl (x c : Int) : ∀ r : List Int, ev x (sclR c r) = c * ev x r
  | [] => by simp [sclR, ev]
  | a :: r => by
    have := ev_scl x c r
    unfold sclR at this ⊢
    rw [List.map_cons, ev, ev, this, Int.mul_add, Int.mul_left_comm]
theorem ev_mul (x : Int) : ∀ r s : List Int, ev x (mulR r s) = ev x r * ev x s
  | [], s => by simp [mulR, ev]
  | a :: r, s => by rw [mulR, ev_add, ev_scl, ev, ev, ev_mul x r s, Int.add_mul, Int.mul_assoc]; omega
theorem nm_add : ∀ r s : List Int, nm (addR r s) ≤ nm r + nm s
  | [], s => by rw [addR]; simp [nm]
  | a :: r, [] => by rw [addR_nil]; simp [nm]
  | a :: r, b :: s => by
    have := nm_add r s
    rw [addR, nm, nm, nm]
    omega
theorem nm_scl (c : Int) : ∀ r : List Int, nm (sclR c r) = c.natAbs * nm r
  | [] => by simp [sclR, nm]
  | a :: r => by
    have := nm_scl c r
    unfold sclR at this ⊢
    rw [List.map_cons, nm, nm, this, Int.natAbs_mul, Nat.mul_add]
theorem nm_mul : ∀ r s : List Int, nm (mulR r s) ≤ nm r * nm s
  | [], s => by simp [mulR, nm]
  | a :: r, s => by
    have h1 := nm_add (sclR a s) (0 :: mulR r s)
    have h2 := nm_mul r s
    rw [mulR, nm, Nat.add_mul]
    rw [nm_scl] at h1
    have h3 : nm (0 :: mulR r s) = nm (mulR r s) := by rw [nm]; simp
    omega
theorem nm_mem : ∀ {r : List Int} {c : Int}, c ∈ r → c.natAbs ≤ nm r
  | a :: r, c, h => by
    rw [nm]
    rcases List.mem_cons.mp h with rfl | h
    · omega
    · have := nm_mem h; omega
theorem nm_pos {r : List Int} (h : okR r) (e : r ≠ []) : 1 ≤ nm r := by
  obtain ⟨c, hc⟩ : ∃ c, r.getLast? = some c := by
    cases h : r.getLast? with
    | none => exact absurd (List.getLast?_eq_none_iff.mp h) e
    | some c => exact ⟨c, rfl⟩
  have := h c hc
  have := nm_mem (List.mem_of_getLast? hc)
  omega
/-! numbers of such rows -/
theorem g_add : ∀ (r s : List Int) (k : Nat), g (addR r s) k = g r k + g s k
  | [], s, k => by rw [addR, show g [] k = 0 from rfl]; omega
  | a :: r, [], k => by rw [addR_nil, show g [] k = 0 from rfl]; omega
  | a :: r, b :: s, 0 => rfl
  | a :: r, b :: s, k + 1 => by
    have := g_add r s k
    show g (addR r s) k = g r k + g s k
    exact this
theorem g_scl (c : Int) : ∀ (r : List Int) (k : Nat), g (sclR c r) k = c * g r k
  | [], k => by show (0 : Int) = c * 0; simp
  | a :: r, 0 => rfl
  | a :: r, k + 1 => g_scl c r k
theorem g_mul : ∀ (r s : List Int) (k : Nat), g (mulR r s) k = cv (g r) (g s) k
  | [], s, k => (cv_zero (f := g []) (fun i => rfl) k).symm
  | a :: r, s, k => by
    rw [mulR, g_add, g_scl]
    cases k with
    | zero =>
      show a * g s 0 + 0 = cv (g (a :: r)) (g s) 0
      unfold cv
      rw [S, S]
      show _ = 0 + a * g s 0
      omega
    | succ k =>
      show a * g s (k + 1) + g (mulR r s) k = cv (g (a :: r)) (g s) (k + 1)
      rw [g_mul r s k]
      unfold cv
      rw [S_shift (n := k + 1)]
      show _ = a * g s (k + 1 - 0) + _
      rw [Nat.sub_zero]
      congr 1
      refine S_ext _ fun i hi => ?_
      show g r i * g s (k - i) = g r i * g s (k + 1 - (i + 1))
      rw [Nat.add_sub_add_right]
theorem ev_ext (x : Int) : ∀ {r s : List Int}, (∀ k, g r k = g s k) → ev x r = ev x s
  | [], [], _ => rfl
  | [], b :: s, h => by
    have h0 : (0 : Int) = b := h 0
    have ih := ev_ext x (r := []) (s := s) fun k => h (k + 1)
    rw [ev, ev, ← ih, ← h0, ev]; simp
  | a :: r, [], h => by
    have h0 : a = (0 : Int) := h 0
    have ih := ev_ext x (r := r) (s := []) fun k => h (k + 1)
    rw [ev, ev, ih, h0, ev]; simp
  | a :: r, b :: s, h => by
    have h0 : a = b := h 0
    rw [ev, ev, h0, ev_ext x (r := r) (s := s) fun k => h (k + 1)]
theorem ev_trim (x : Int) (r : List Int) : ev x (trimI r) = ev x r := ev_ext x (g_trim r)
theorem nm_trim : ∀ r : List Int, nm (trimI r) ≤ nm r
  | [] => Nat.le_refl _
  | a :: r => by
    have ih := nm_trim r
    unfold trimI at ih ⊢
    rw [trimBy]
    cases e : trimBy (fun c : Int => c == 0) r with
    | nil =>
      dsimp only
      split
      · exact Nat.zero_le _
      · rw [nm, nm]; simp [nm]
    | cons b l => rw [e] at ih; dsimp only; rw [nm, nm.eq_def (a :: r)]; dsimp only; omega
/-- a value 0 of small numbers -/
theorem ev_zero {X : Nat} : ∀ {r : List Int}, (∀ c ∈ r, c.natAbs < X) → ev (X : Int) r = 0 → ∀ c ∈ r, c = 0
  | [], _, _, c, h => by cases h
  | a :: r, hb, h, c, hc => by
    rw [ev] at h
    have h1 := hb a (List.mem_cons_self ..)
    have a0 : a = 0 := by
      have d : (X : Int) ∣ a := ⟨-ev (X : Int) r, by rw [Int.mul_neg]; omega⟩
      have d2 : X ∣ a.natAbs := by have := Int.natAbs_dvd_natAbs.mpr d; rwa [Int.natAbs_natCast] at this
      have := Nat.eq_zero_of_dvd_of_lt d2 h1
      omega
    have e0 : ev (X : Int) r = 0 := by
      rw [a0, Int.zero_add] at h
      rcases Int.mul_eq_zero.mp h with z | z
      · have : X = 0 := by omega
        omega
      · exact z
    rcases List.mem_cons.mp hc with rfl | hc
    · exact a0
    · exact ev_zero (fun c h => hb c (List.mem_cons_of_mem _ h)) e0 c hc
theorem okR_zero {r : List Int} (h : okR r) (z : ∀ c ∈ r, c = 0) : r = [] := by
  cases e : r.getLast? with
  | none => exact List.getLast?_eq_none_iff.mp e
  | some c => exact absurd (z c (List.mem_of_getLast? e)) (h c e)
/-- a row is known by its values -/
theorem ev_inj {r s : List Int} (hr : okR r) (hs : okR s) (h : ∀ x, ev x r = ev x s) : r = s := by
  have h1 : ∀ k, g (addR r (sclR (-1) s)) k = 0 := fun k => by
    have z := ev_zero (X := nm (addR r (sclR (-1) s)) + 1) (r := addR r (sclR (-1) s)) (fun c hc => by have := nm_mem hc; omega) (by rw [ev_add, ev_scl, h]; omega)
    rcases Nat.lt_or_ge k (addR r (sclR (-1) s)).length with c | c
    · rw [g_some c]; exact z _ (List.getElem_mem _)
    · exact g_none c
  refine row_ext hr hs fun k => ?_
  have := h1 k
  rw [g_add, g_scl] at this
  omega
theorem ev_ne {r : List Int} (h : okR r) (e : r ≠ []) {X : Nat} (hb : ∀ c ∈ r, c.natAbs < X) : ev (X : Int) r ≠ 0 := fun z => e (okR_zero h (ev_zero hb z))
theorem ev_le (X : Nat) (hX : 1 ≤ X) : ∀ {n : Nat} {r : List Int}, r.length ≤ n + 1 → (ev (X : Int) r).natAbs ≤ nm r * X ^ n
  | _, [], _ => by simp [ev]
  | 0, [a], _ => by simp [ev, nm]
  | 0, a :: b :: r, h => by simp at h
  | n + 1, a :: r, h => by
    have ih := ev_le X hX (n := n) (r := r) (by simpa using h)
    rw [ev, nm, Nat.add_mul, Nat.pow_succ]
    have h1 : (a + (X : Int) * ev (X : Int) r).natAbs ≤ a.natAbs + X * (ev (X : Int) r).natAbs := by
      refine Nat.le_trans (Int.natAbs_add_le ..) ?_
      rw [Int.natAbs_mul, Int.natAbs_natCast]
      exact Nat.le_refl _
    have h2 : X * (ev (X : Int) r).natAbs ≤ nm r * (X ^ n * X) := by
      rw [Nat.mul_comm X, ← Nat.mul_assoc]
      exact Nat.mul_le_mul_right _ ih
    have h3 : a.natAbs * 1 ≤ a.natAbs * (X ^ n * X) := Nat.mul_le_mul_left _ (Nat.mul_pos (Nat.pow_pos hX) hX)
    omega
/-! expressions -/
inductive Ex where
  | v (i : Nat)
  | k (c : Int)
  | add (a b : Ex)
  | mul (a b : Ex)
def Ex.int (ρ : Nat → Int) : Ex → Int
  | .v i => ρ i
  | .k c => c
  | .add a b => a.int ρ + b.int ρ
  | .mul a b => a.int ρ * b.int ρ
def Ex.row (ρ : Nat → List Int) : Ex → List Int
  | .v i => ρ i
  | .k c => [c]
  | .add a b => addR (a.row ρ) (b.row ρ)
  | .mul a b => mulR (a.row ρ) (b.row ρ)
def Ex.nrm (ρ : Nat → Nat) : Ex → Nat
  | .v i => ρ i
  | .k c => c.natAbs
  | .add a b => a.nrm ρ + b.nrm ρ
  | .mul a b => a.nrm ρ * b.nrm ρ
theorem Ex.ev (x : Int) (ρ : Nat → List Int) : ∀ e : Ex, K27.ev x (e.row ρ) = e.int fun i => K27.ev x (ρ i)
  | .v i => rfl
  | .k c => by show c + x * 0 = c; omega
  | .add a b => by rw [Ex.row, ev_add, Ex.ev x ρ a, Ex.ev x ρ b]; rfl
  | .mul a b => by rw [Ex.row, ev_mul, Ex.ev x ρ a, Ex.ev x ρ b]; rfl
theorem Ex.nm (ρ : Nat → List Int) : ∀ e : Ex, K27.nm (e.row ρ) ≤ e.nrm fun i => K27.nm (ρ i)
  | .v i => Nat.le_refl _
  | .k c => Nat.le_refl _
  | .add a b => Nat.le_trans (nm_add _ _) (Nat.add_le_add (Ex.nm ρ a) (Ex.nm ρ b))
  | .mul a b => Nat.le_trans (nm_mul _ _) (Nat.mul_le_mul (Ex.nm ρ a) (Ex.nm ρ b))
end K27

set_option Elab.async false
set_option linter.all false
set_option maxRecDepth 100000
set_option maxHeartbeats 4000000
/-! the program's chain of rests, as a plain function, and what it tells of a row beside its derivative -/
namespace K27
/-- the head -/
def hd (r : List Int) : Int := g r (r.length - 1)
def subAt : Nat → Int → List Int → List Int → List Int
  | 0, _, [], r => r
  | 0, _, _ :: _, [] => []
  | 0, t, b :: bs, c :: r => (c - t * b) :: subAt 0 t bs r
  | _ + 1, _, _, [] => []
  | n + 1, t, bs, c :: r => c :: subAt n t bs r
def frGo (bb : List Int) : Nat → List Int → List Int
  | 0, r => r
  | n + 1, r => frGo bb n (subAt n (hd r) bb.dropLast (r.dropLast.map fun c => hd bb * c))
def fr (row bb : List Int) : List Int := trimI (frGo bb (row.length - bb.length + 1) row)
def oh (h s : Int) : Nat → Int
  | 0 => h
  | k + 1 => if k % 2 = 0 then -(h * oh h s k).fdiv s else (h * oh h s k).fdiv s
def srGo : Nat → Nat → List (List Int) → List Int → List Int → Int → Int → Option (List (List Int))
  | 0, _, _, _, _, _, _ => none
  | f + 1, at_, found, upper, lower, scale, lead =>
    if lower = [] then some found else
    if hd lower = 0 ∨ at_ < lower.length then none else
    let low := lower.length - 1
    let own := oh (hd lower) scale (at_ - 1 - low)
    let found1 := if low < at_ - 1 then found.set low (lower.map fun n => (own * n).fdiv (hd lower)) else found
    if low = 0 then some found1 else
    if own = 0 then none else
    let rest := (fr upper lower).map fun n => (-own * n).fdiv (hd lower ^ (at_ - low) * scale * lead)
    srGo f low (found1.set (low - 1) rest) lower rest own (hd lower)
theorem fdiv_eq {x y z : Int} (h : y ≠ 0) (e : x = y * z) : x.fdiv y = z := by
  rw [e, Int.mul_fdiv_cancel_left _ h]
theorem trim_nil_of {S : List Int} (h : trimI S = []) : ∀ c ∈ S, c = 0 := fun c hc => by
  obtain ⟨k, hk, e⟩ := List.getElem_of_mem hc
  have := g_trim S k
  rw [h, g_some hk, e] at this
  exact this.symm
inductive Fa (R : Int → Int → Prop) : List Int → List Int → Prop
  | nil : Fa R [] []
  | cons {x s : Int} {L S : List Int} : R x s → Fa R L S → Fa R (x :: L) (s :: S)
theorem div_trim {own over : Int} (ho : over ≠ 0) (hw : own ≠ 0) : ∀ {L S : List Int}, Fa (fun x s => -own * x = over * s) L S → (trimI L).map (fun n => (-own * n).fdiv over) = trimI S
  | _, _, .nil => rfl
  | _, _, .cons (x := x) (s := s) (L := L) (S := S) h t => by
    have ih := div_trim ho hw t
    have z : x = 0 ↔ s = 0 := by
      constructor
      · intro e; rw [e, Int.mul_zero] at h
        rcases Int.mul_eq_zero.mp h.symm with q | q
        · exact absurd q ho
        · exact q
      · intro e; rw [e, Int.mul_zero] at h
        rcases Int.mul_eq_zero.mp h with q | q
        · omega
        · exact q
    unfold trimI at ih ⊢
    rw [trimBy, trimBy]
    cases e1 : trimBy (fun c : Int => c == 0) L with
    | nil =>
      rw [e1] at ih
      rw [← ih]
      dsimp only [List.map_nil]
      by_cases c : x = 0
      · rw [if_pos (by simp [c]), if_pos (by simp [z.mp c])]; rfl
      · have c' : ¬ s = 0 := fun q => c (z.mpr q)
        rw [if_neg (by simp [c]), if_neg (by simp [c'])]
        show [(-own * x).fdiv over] = [s]
        rw [fdiv_eq ho h]
    | cons b l =>
      rw [e1] at ih
      rw [← ih]
      show (-own * x).fdiv over :: List.map (fun n => (-own * n).fdiv over) (b :: l) = s :: List.map (fun n => (-own * n).fdiv over) (b :: l)
      rw [fdiv_eq ho h]
theorem trim_one {a : Int} (h : a ≠ 0) : trimI [a] = [a] := by simp [trimI, trimBy, h]
theorem trim_two {a b : Int} (h : b ≠ 0) : trimI [a, b] = [a, b] := by simp [trimI, trimBy, h]
theorem trim_three {a b c : Int} (h : c ≠ 0) : trimI [a, b, c] = [a, b, c] := by simp [trimI, trimBy, h]
theorem trim_z1 : trimI [0] = [] := by simp [trimI, trimBy]
theorem trim_z2 {a : Int} : trimI [a, 0] = trimI [a] := by simp [trimI, trimBy]
theorem trim_z3 {a b : Int} : trimI [a, b, 0] = trimI [a, b] := by
  by_cases h : b = 0
  · subst h; simp [trimI, trimBy]
  · simp [trimI, trimBy, h]
/-- S0 as the program tells it -/
def oneOr (s : Int) : List Int := if s = 0 then [] else [s]
def s0 (a b c d e : Int) : Int := -16*e*a^2 + d*b*a
def s1 (a b c d e : Int) : Int := -12*d*a^2 + 2*c*b*a
def s2 (a b c d e : Int) : Int := -8*c*a^2 + 3*b^2*a
def t0 (a b c d e : Int) : Int := -48*e*d*a^3 + 32*e*c*b*a^2 - 9*e*b^3*a + 3*d^2*b*a^2 - 4*d*c^2*a^2 + d*c*b^2*a
def t1 (a b c d e : Int) : Int := 32*e*c*a^3 - 12*e*b^2*a^2 - 36*d^2*a^3 + 28*d*c*b*a^2 - 6*d*b^3*a - 8*c^3*a^2 + 2*c^2*b^2*a
def D4 (a b c d e : Int) : Int := 256*e^3*a^3 - 192*e^2*d*b*a^2 - 128*e^2*c^2*a^2 + 144*e^2*c*b^2*a - 27*e^2*b^4 + 144*e*d^2*c*a^2 - 6*e*d^2*b^2*a - 80*e*d*c^2*b*a + 18*e*d*c*b^3 + 16*e*c^4*a - 4*e*c^3*b^2 - 27*d^4*a^2 + 18*d^3*c*b*a - 4*d^3*b^3 - 4*d^2*c^3*a + d^2*c^2*b^2

/-! the identities -/
theorem id2 (a b c d e : Int) : -s2 a b c d e * (s2 a b c d e * (s2 a b c d e * d) - (s2 a b c d e * (3 * b) - 4 * a * s1 a b c d e) * s0 a b c d e) = s2 a b c d e ^ 1 * (4 * a) * (4 * a) * t0 a b c d e := by
  unfold s0 s1 s2 t0
  grind
theorem id2' (a b c d e : Int) : -s2 a b c d e * (s2 a b c d e * (s2 a b c d e * (2 * c) - 4 * a * s0 a b c d e) - (s2 a b c d e * (3 * b) - 4 * a * s1 a b c d e) * s1 a b c d e) = s2 a b c d e ^ 1 * (4 * a) * (4 * a) * t1 a b c d e := by
  unfold s0 s1 s2 t1
  grind
theorem id3 (a b c d e : Int) : -t1 a b c d e * (t1 a b c d e * (t1 a b c d e * s0 a b c d e) - (t1 a b c d e * s1 a b c d e - s2 a b c d e * t0 a b c d e) * t0 a b c d e) = t1 a b c d e ^ 1 * s2 a b c d e * s2 a b c d e * (a * D4 a b c d e) := by
  unfold s0 s1 s2 t0 t1 D4
  grind

def u0 (a b c d : Int) : Int := -9*d*a^2 + c*b*a
def u1 (a b c d : Int) : Int := -6*c*a^2 + 2*b^2*a
def D3 (a b c d : Int) : Int := -27*d^2*a^2 + 18*d*c*b*a - 4*d*b^3 - 4*c^3*a + c^2*b^2
def D2 (a b c : Int) : Int := b^2 - 4*a*c
theorem id2n (a b c d e : Int) : -(s2 a b c d e * (s2 a b c d e * (2 * c) - 4 * a * s0 a b c d e) - (s2 a b c d e * (3 * b) - 4 * a * s1 a b c d e) * s1 a b c d e) = 16 * a ^ 2 * t1 a b c d e := by
  unfold s0 s1 s2 t1
  grind
def RS (g0 g1 g2 g3 s0 s1 s2 : Int) : Int := g0^2*s2^3 - g0*g1*s1*s2^2 - 2*g0*g2*s0*s2^2 + g0*g2*s1^2*s2 + 3*g0*g3*s0*s1*s2 - g0*g3*s1^3 + g1^2*s0*s2^2 - g1*g2*s0*s1*s2 - 2*g1*g3*s0^2*s2 + g1*g3*s0*s1^2 + g2^2*s0^2*s2 - g2*g3*s0^2*s1 + g3^2*s0^3
theorem idR (a b c d e : Int) : RS d (2*c) (3*b) (4*a) (s0 a b c d e) (s1 a b c d e) (s2 a b c d e) = -256 * a^5 * D4 a b c d e := by
  unfold RS s0 s1 s2 D4
  grind
theorem id3u (a b c d : Int) : -u1 a b c d * (u1 a b c d * (u1 a b c d * c) - (u1 a b c d * (2 * b) - 3 * a * u0 a b c d) * u0 a b c d) = u1 a b c d ^ 1 * (3 * a) * (3 * a) * (a * D3 a b c d) := by
  unfold u0 u1 D3
  grind
theorem id3v (a b c d : Int) : u1 a b c d * (u1 a b c d * c) - (u1 a b c d * (2 * b) - 3 * a * u0 a b c d) * u0 a b c d = - (9 * a ^ 2 * (a * D3 a b c d)) := by
  unfold u0 u1 D3
  grind
theorem id3n (a b c d e : Int) : -(t1 a b c d e * (t1 a b c d e * s0 a b c d e) - (t1 a b c d e * s1 a b c d e - s2 a b c d e * t0 a b c d e) * t0 a b c d e) = s2 a b c d e ^ 2 * (a * D4 a b c d e) := by
  unfold s0 s1 s2 t0 t1 D4
  grind
theorem dvd_half {w s k : Int} (h : w * w * k = s * s * s) : w ∣ s * s := by
  have : w ^ 2 ∣ (s * s) ^ 2 := ⟨k * s, by grind⟩
  exact (Int.pow_dvd_pow_iff (by decide)).mp this
/-! steps -/
theorem sr_nil {f at_ : Nat} {found : List (List Int)} {upper : List Int} {scale lead : Int} : srGo (f + 1) at_ found upper [] scale lead = some found := by rw [srGo, if_pos rfl]
theorem sr_step {f at_ : Nat} {found : List (List Int)} {upper lower rest : List Int} {scale lead own : Int} (h0 : hd lower ≠ 0) (h1 : 2 ≤ lower.length) (h2 : lower.length ≤ at_)
    (ho : oh (hd lower) scale (at_ - 1 - (lower.length - 1)) = own) (hw : own ≠ 0)
    (hr : (fr upper lower).map (fun n => (-own * n).fdiv (hd lower ^ (at_ - (lower.length - 1)) * scale * lead)) = rest) :
    ∃ found1 : List (List Int), found1.length = found.length ∧ found1.getD 0 [] = found.getD 0 [] ∧ srGo (f + 1) at_ found upper lower scale lead = srGo f (lower.length - 1) (found1.set (lower.length - 1 - 1) rest) lower rest own (hd lower) := by
  rw [srGo, if_neg (by intro z; rw [z] at h1; simp at h1), if_neg (by rintro (z | z); exact h0 z; omega)]
  dsimp only
  rw [ho, hr, if_neg (by omega), if_neg hw]
  refine ⟨_, ?_, ?_, rfl⟩
  · split
    · rw [List.length_set]
    · rfl
  · split
    · rw [List.getD_eq_getElem?_getD, List.getD_eq_getElem?_getD, List.getElem?_set_ne (by omega)]
    · rfl
theorem sr_end {f at_ : Nat} {found : List (List Int)} {upper : List Int} {scale lead c own : Int} (h : c ≠ 0) (h1 : 1 ≤ at_) (hf : found.length = at_ + 1 ∨ found.length = at_ + 0 + 1 ∨ 0 < found.length)
    (ho : at_ = 1 → found.getD 0 [] = [own]) (ho2 : at_ ≠ 1 → oh c scale (at_ - 1) = own) : ∃ fd, srGo (f + 1) at_ found upper [c] scale lead = some fd ∧ fd.length = found.length ∧ fd.getD 0 [] = [own] := by
  rw [srGo, if_neg (by simp), if_neg (by rintro (z | z); exact h z; simp at z; omega)]
  dsimp only
  rw [if_pos (show [c].length - 1 = 0 from rfl)]
  refine ⟨_, rfl, ?_, ?_⟩
  · split
    · rw [List.length_set]
    · rfl
  · by_cases c1 : at_ = 1
    · rw [if_neg (by simp; omega)]; exact ho c1
    · rw [if_pos (by simp; omega)]
      have e : oh (hd [c]) scale (at_ - 1 - ([c].length - 1)) = own := ho2 c1
      rw [e]
      have h0 : 0 < found.length := by omega
      show (found.set 0 [(own * c).fdiv c]).getD 0 [] = [own]
      rw [List.getD_eq_getElem?_getD, List.getElem?_set_self h0]
      show [(own * c).fdiv c] = [own]
      rw [fdiv_eq h (Int.mul_comm own c)]
theorem set_get {l : List (List Int)} {r : List Int} (h : 0 < l.length) : (l.set 0 r).getD 0 [] = r := by
  rw [List.getD_eq_getElem?_getD, List.getElem?_set_self h]; rfl
theorem set_get1 {l : List (List Int)} {r : List Int} {i : Nat} (h : i ≠ 0) : (l.set i r).getD 0 [] = l.getD 0 [] := by
  rw [List.getD_eq_getElem?_getD, List.getD_eq_getElem?_getD, List.getElem?_set_ne h]
/-- the last step: one number is left, or none -/
theorem sr_last {f : Nat} {found : List (List Int)} {upper : List Int} {scale lead s : Int} (h : 0 < found.length) (e : found.getD 0 [] = trimI [s]) : ∃ fd, srGo (f + 1) 1 found upper (trimI [s]) scale lead = some fd ∧ fd.length = found.length ∧ fd.getD 0 [] = trimI [s] := by
  by_cases c : s = 0
  · subst c; rw [trim_z1] at e ⊢; exact ⟨found, sr_nil, rfl, e⟩
  · rw [trim_one c] at e ⊢
    exact sr_end c (Nat.le_refl 1) (.inr (.inr h)) (fun _ => e) (fun z => absurd rfl z)
theorem sr1 {a : Int} (h : a ≠ 0) {b : Int} {upper : List Int} : ∃ fd, srGo 5 1 [[a], [b, a]] upper [a] 1 1 = some fd ∧ fd.length = 2 ∧ fd.getD 0 [] = trimI [a * 1] := by
  rw [Int.mul_one, trim_one h]
  exact sr_end h (Nat.le_refl 1) (.inl rfl) (fun _ => rfl) (fun z => absurd rfl z)
theorem sr2 {a b c : Int} (h : a ≠ 0) : ∃ fd, srGo 5 2 [[], [b, 2 * a], [c, b, a]] [c, b, a] [b, 2 * a] 1 1 = some fd ∧ fd.length = 3 ∧ fd.getD 0 [] = trimI [a * D2 a b c] := by
  have h2 : 2 * a ≠ 0 := by omega
  have hrest : (fr [c, b, a] [b, 2 * a]).map (fun n => (-(2 * a) * n).fdiv ((2 * a) ^ 1 * 1 * 1)) = trimI [a * D2 a b c] := by
    refine div_trim (by rw [Int.mul_one, Int.mul_one, Int.pow_succ]; simpa using h) h2 (.cons ?_ .nil)
    show -(2 * a) * (2 * a * (2 * a * c) - (2 * a * b - a * b) * b) = _
    unfold D2
    grind
  obtain ⟨f1, l1, g1, e⟩ := sr_step (f := 4) (at_ := 2) (found := [[], [b, 2 * a], [c, b, a]]) (upper := [c, b, a]) (lower := [b, 2 * a]) (scale := 1) (lead := 1) (own := 2 * a) h2 (Nat.le_refl 2) (Nat.le_refl 2) rfl h2 hrest
  rw [e]
  obtain ⟨fd, e1, e2, e3⟩ := sr_last (f := 3) (found := f1.set 0 (trimI [a * D2 a b c])) (upper := [b, 2 * a]) (scale := 2 * a) (lead := 2 * a) (s := a * D2 a b c) (by rw [List.length_set, l1]; simp) (set_get (by rw [l1]; simp))
  exact ⟨fd, e1, by rw [e2, List.length_set, l1]; rfl, e3⟩
theorem sr3 {a b c d : Int} (h : a ≠ 0) : ∃ fd, srGo 5 3 [[], [], [c, 2 * b, 3 * a], [d, c, b, a]] [d, c, b, a] [c, 2 * b, 3 * a] 1 1 = some fd ∧ fd.length = 4 ∧ fd.getD 0 [] = trimI [a * D3 a b c d] := by
  have h2 : 3 * a ≠ 0 := by omega
  have hrest : (fr [d, c, b, a] [c, 2 * b, 3 * a]).map (fun n => (-(3 * a) * n).fdiv ((3 * a) ^ 1 * 1 * 1)) = trimI [u0 a b c d, u1 a b c d] := by
    refine div_trim (by rw [Int.mul_one, Int.mul_one, Int.pow_succ]; simpa using h) h2 (.cons ?_ (.cons ?_ .nil))
    · show -(3 * a) * (3 * a * (3 * a * d) - (3 * a * b - a * (2 * b)) * c) = _
      unfold u0
      grind
    · show -(3 * a) * (3 * a * (3 * a * c - a * c) - (3 * a * b - a * (2 * b)) * (2 * b)) = _
      unfold u1
      grind
  obtain ⟨f1, l1, g1, e⟩ := sr_step (f := 4) (at_ := 3) (found := [[], [], [c, 2 * b, 3 * a], [d, c, b, a]]) (upper := [d, c, b, a]) (lower := [c, 2 * b, 3 * a]) (scale := 1) (lead := 1) (own := 3 * a) h2 (by simp) (Nat.le_refl 3) rfl h2 hrest
  rw [e]
  have g1 : f1.getD 0 [] = [] := g1
  have l1 : f1.length = 4 := l1
  have v := id3v a b c d
  have w := id3u a b c d
  have hp : ∀ z : Int, 9 * a ^ 2 * z = 0 → z = 0 := fun z hz => by
    rcases Int.mul_eq_zero.mp hz with q | q
    · exfalso
      have : a ^ 2 ≠ 0 := Int.pow_ne_zero h
      omega
    · exact q
  generalize u0 a b c d = x0 at *
  generalize u1 a b c d = x1 at *
  generalize a * D3 a b c d = S at *
  show ∃ fd, srGo 4 2 (f1.set 1 (trimI [x0, x1])) [c, 2 * b, 3 * a] (trimI [x0, x1]) (3 * a) (3 * a) = some fd ∧ _
  by_cases c1 : x1 = 0
  · subst c1
    rw [trim_z2]
    by_cases c0 : x0 = 0
    · subst c0
      have S0 : S = 0 := hp S (by grind)
      rw [trim_z1, S0, trim_z1]
      exact ⟨_, sr_nil, by rw [List.length_set]; exact l1, by rw [set_get1 (by decide)]; exact g1⟩
    · rw [trim_one c0]
      have e1 : x0 * x0 = 3 * a * -S := by
        have : 3 * a * (x0 * x0 - 3 * a * -S) = 0 := by grind
        rcases Int.mul_eq_zero.mp this with q | q
        · omega
        · omega
      have S0 : S ≠ 0 := fun z => by
        rw [z] at e1
        have : x0 * x0 = 0 := by rw [e1]; simp
        rcases Int.mul_eq_zero.mp this with q | q <;> exact c0 q
      rw [trim_one S0]
      obtain ⟨fd, e2, e3, e4⟩ := sr_end (f := 3) (at_ := 2) (found := f1.set 1 [x0]) (upper := [c, 2 * b, 3 * a]) (scale := 3 * a) (lead := 3 * a) (c := x0) (own := S) c0 (by decide) (.inr (.inr (by rw [List.length_set, l1]; decide))) (fun z => absurd z (by decide)) (fun _ => by
        show (-(x0 * x0).fdiv (3 * a)) = S
        rw [fdiv_eq h2 e1]; omega)
      exact ⟨fd, e2, by rw [e3, List.length_set, l1], e4⟩
  · rw [trim_two c1]
    have hr2 : (fr [c, 2 * b, 3 * a] [x0, x1]).map (fun n => (-x1 * n).fdiv (x1 ^ 1 * (3 * a) * (3 * a))) = trimI [S] := by
      refine div_trim ?_ c1 (.cons ?_ .nil)
      · rw [Int.pow_succ, Int.pow_zero, Int.one_mul]
        exact Int.mul_ne_zero (Int.mul_ne_zero c1 h2) h2
      · show -x1 * (x1 * (x1 * c) - (x1 * (2 * b) - 3 * a * x0) * x0) = _
        exact w
    obtain ⟨f2, l2, g2, e'⟩ := sr_step (f := 3) (at_ := 2) (found := f1.set 1 [x0, x1]) (upper := [c, 2 * b, 3 * a]) (lower := [x0, x1]) (scale := 3 * a) (lead := 3 * a) (own := x1) c1 (Nat.le_refl 2) (Nat.le_refl 2) rfl c1 hr2
    rw [e']
    rw [List.length_set, l1] at l2
    obtain ⟨fd, e1, e2, e3⟩ := sr_last (f := 2) (found := f2.set 0 (trimI [S])) (upper := [x0, x1]) (scale := x1) (lead := x1) (s := S) (by rw [List.length_set, l2]; decide) (set_get (by rw [l2]; decide))
    exact ⟨fd, e1, by rw [e2, List.length_set, l2], e3⟩

theorem sr4 {a b c d e : Int} (h : a ≠ 0) : ∃ fd, srGo 5 4 [[], [], [], [d, 2 * c, 3 * b, 4 * a], [e, d, c, b, a]] [e, d, c, b, a] [d, 2 * c, 3 * b, 4 * a] 1 1 = some fd ∧ fd.length = 5 ∧ fd.getD 0 [] = trimI [a * D4 a b c d e] := by
  have h2 : 4 * a ≠ 0 := by omega
  have hrest : (fr [e, d, c, b, a] [d, 2 * c, 3 * b, 4 * a]).map (fun n => (-(4 * a) * n).fdiv ((4 * a) ^ 1 * 1 * 1)) = trimI [s0 a b c d e, s1 a b c d e, s2 a b c d e] := by
    refine div_trim (by rw [Int.mul_one, Int.mul_one, Int.pow_succ]; simpa using h) h2 (.cons ?_ (.cons ?_ (.cons ?_ .nil)))
    · show -(4 * a) * (4 * a * (4 * a * e) - (4 * a * b - a * (3 * b)) * d) = _
      unfold s0
      grind
    · show -(4 * a) * (4 * a * (4 * a * d - a * d) - (4 * a * b - a * (3 * b)) * (2 * c)) = _
      unfold s1
      grind
    · show -(4 * a) * (4 * a * (4 * a * c - a * (2 * c)) - (4 * a * b - a * (3 * b)) * (3 * b)) = _
      unfold s2
      grind
  obtain ⟨f1, l1, g1, e1⟩ := sr_step (f := 4) (at_ := 4) (found := [[], [], [], [d, 2 * c, 3 * b, 4 * a], [e, d, c, b, a]]) (upper := [e, d, c, b, a]) (lower := [d, 2 * c, 3 * b, 4 * a]) (scale := 1) (lead := 1) (own := 4 * a) h2 (by simp) (Nat.le_refl 4) rfl h2 hrest
  rw [e1]
  clear e1 hrest
  have g1 : f1.getD 0 [] = [] := g1
  have l1 : f1.length = 5 := l1
  have i2 := id2 a b c d e
  have i2' := id2' a b c d e
  have i2n := id2n a b c d e
  have i3 := id3 a b c d e
  have i3n := id3n a b c d e
  have iR := idR a b c d e
  have hp : ∀ (k : Nat) (z : Int), a ^ k * z = 0 → z = 0 := fun k z hz => by
    rcases Int.mul_eq_zero.mp hz with q | q
    · exact absurd q (Int.pow_ne_zero h)
    · exact q
  generalize s0 a b c d e = x0 at *
  generalize s1 a b c d e = x1 at *
  generalize s2 a b c d e = x2 at *
  generalize t0 a b c d e = y0 at *
  generalize t1 a b c d e = y1 at *
  generalize D4 a b c d e = D at *
  show ∃ fd, srGo 4 3 (f1.set 2 (trimI [x0, x1, x2])) [d, 2 * c, 3 * b, 4 * a] (trimI [x0, x1, x2]) (4 * a) (4 * a) = some fd ∧ _
  by_cases c2 : x2 = 0
  · subst c2
    rw [trim_z3]
    by_cases c1 : x1 = 0
    · subst c1
      rw [trim_z2]
      by_cases c0 : x0 = 0
      · subst c0
        have D0 : a * D = 0 := hp 4 _ (by unfold RS at iR; grind)
        rw [D0, trim_z1]
        exact ⟨_, sr_nil, by rw [List.length_set]; exact l1, by rw [set_get1 (by decide)]; exact g1⟩
      · rw [trim_one c0]
        have e1 : (4 * a) * (4 * a) * -(a * D) = x0 * x0 * x0 := by
          have : a ^ 2 * ((4 * a) * (4 * a) * -(a * D) - x0 * x0 * x0) = 0 := by unfold RS at iR; grind
          have := hp 2 _ this
          omega
        obtain ⟨m, hm⟩ := dvd_half e1
        have S0 : a * D ≠ 0 := fun z => by
          rw [z] at e1
          have : x0 * x0 * x0 = 0 := by rw [← e1]; simp
          rcases Int.mul_eq_zero.mp this with q | q
          · rcases Int.mul_eq_zero.mp q with q | q <;> exact c0 q
          · exact c0 q
        rw [trim_one S0]
        have e2 : x0 * -m = 4 * a * (a * D) := by
          have : 4 * a * (x0 * -m - 4 * a * (a * D)) = 0 := by grind
          rcases Int.mul_eq_zero.mp this with q | q
          · omega
          · omega
        obtain ⟨fd, e5, e3, e4⟩ := sr_end (f := 3) (at_ := 3) (found := f1.set 2 [x0]) (upper := [d, 2 * c, 3 * b, 4 * a]) (scale := 4 * a) (lead := 4 * a) (c := x0) (own := a * D) c0 (by decide) (.inr (.inr (by rw [List.length_set, l1]; decide))) (fun z => absurd z (by decide)) (fun _ => by
          show (x0 * -(x0 * x0).fdiv (4 * a)).fdiv (4 * a) = a * D
          rw [fdiv_eq h2 hm, fdiv_eq h2 e2])
        exact ⟨fd, e5, by rw [e3, List.length_set, l1], e4⟩
    · rw [trim_two c1]
      have e1 : x1 * x1 = 4 * a * -y1 := by
        have : a ^ 1 * (x1 * x1 - 4 * a * -y1) = 0 := by grind
        have := hp 1 _ this
        omega
      have y1n : y1 ≠ 0 := fun z => by
        rw [z] at e1
        have : x1 * x1 = 0 := by rw [e1]; simp
        rcases Int.mul_eq_zero.mp this with q | q <;> exact c1 q
      have hr2 : (fr [d, 2 * c, 3 * b, 4 * a] [x0, x1]).map (fun n => (-y1 * n).fdiv (x1 ^ 2 * (4 * a) * (4 * a))) = trimI [a * D] := by
        refine div_trim ?_ y1n (.cons ?_ .nil)
        · exact Int.mul_ne_zero (Int.mul_ne_zero (Int.pow_ne_zero c1) h2) h2
        · show -y1 * (x1 * (x1 * (x1 * d)) - (x1 * (x1 * (2 * c)) - (x1 * (3 * b) - 4 * a * x0) * x0) * x0) = x1 ^ 2 * (4 * a) * (4 * a) * (a * D)
          generalize hN : x1 * (x1 * (x1 * d)) - (x1 * (x1 * (2 * c)) - (x1 * (3 * b) - 4 * a * x0) * x0) * x0 = N
          have hN2 : N = 64 * a ^ 4 * D := by
            have hR : RS d (2 * c) (3 * b) (4 * a) x0 x1 0 = -(4 * a) * N := by rw [← hN]; unfold RS; grind
            rw [iR] at hR
            have : a ^ 1 * (N - 64 * a ^ 4 * D) = 0 := by clear i2 i2' i2n i3 i3n e1 hN iR; grind
            have := hp 1 _ this
            omega
          rw [hN2]
          clear i2 i2' i2n i3 i3n iR hN
          grind
      obtain ⟨f2, l2, g2, e'⟩ := sr_step (f := 3) (at_ := 3) (found := f1.set 2 [x0, x1]) (upper := [d, 2 * c, 3 * b, 4 * a]) (lower := [x0, x1]) (scale := 4 * a) (lead := 4 * a) (own := y1) c1 (Nat.le_refl 2) (by simp) (by
        show -(x1 * x1).fdiv (4 * a) = y1
        rw [fdiv_eq h2 e1]; omega) y1n hr2
      rw [e']
      rw [List.length_set, l1] at l2
      obtain ⟨fd, e1, e2, e3⟩ := sr_last (f := 2) (found := f2.set 0 (trimI [a * D])) (upper := [x0, x1]) (scale := y1) (lead := x1) (s := a * D) (by rw [List.length_set, l2]; decide) (set_get (by rw [l2]; decide))
      exact ⟨fd, e1, by rw [e2, List.length_set, l2], e3⟩
  · rw [trim_three c2]
    have hr2 : (fr [d, 2 * c, 3 * b, 4 * a] [x0, x1, x2]).map (fun n => (-x2 * n).fdiv (x2 ^ 1 * (4 * a) * (4 * a))) = trimI [y0, y1] := by
      refine div_trim ?_ c2 (.cons ?_ (.cons ?_ .nil))
      · exact Int.mul_ne_zero (Int.mul_ne_zero (Int.pow_ne_zero c2) h2) h2
      · exact i2
      · exact i2'
    obtain ⟨f2, l2, g2, e'⟩ := sr_step (f := 3) (at_ := 3) (found := f1.set 2 [x0, x1, x2]) (upper := [d, 2 * c, 3 * b, 4 * a]) (lower := [x0, x1, x2]) (scale := 4 * a) (lead := 4 * a) (own := x2) c2 (by simp) (Nat.le_refl 3) rfl c2 hr2
    rw [e']
    rw [List.length_set, l1] at l2
    rw [set_get1 (by decide)] at g2
    have g2 : f2.getD 0 [] = [] := g2.trans g1
    clear e' hr2
    show ∃ fd, srGo 3 2 (f2.set 1 (trimI [y0, y1])) [x0, x1, x2] (trimI [y0, y1]) x2 x2 = some fd ∧ _
    by_cases d1 : y1 = 0
    · subst d1
      rw [trim_z2]
      have e2 : y0 * y0 = x2 * -(a * D) := by
        have : x2 * (y0 * y0 - x2 * -(a * D)) = 0 := by grind
        rcases Int.mul_eq_zero.mp this with q | q
        · exact absurd q c2
        · omega
      by_cases d0 : y0 = 0
      · subst d0
        have D0 : a * D = 0 := by
          have : x2 * -(a * D) = 0 := by rw [← e2]; simp
          rcases Int.mul_eq_zero.mp this with q | q
          · exact absurd q c2
          · omega
        rw [D0, trim_z1]
        exact ⟨_, sr_nil, by rw [List.length_set]; exact l2, by rw [set_get1 (by decide)]; exact g2⟩
      · rw [trim_one d0]
        have S0 : a * D ≠ 0 := fun z => by
          rw [z] at e2
          have : y0 * y0 = 0 := by rw [e2]; simp
          rcases Int.mul_eq_zero.mp this with q | q <;> exact d0 q
        rw [trim_one S0]
        obtain ⟨fd, e5, e3, e4⟩ := sr_end (f := 2) (at_ := 2) (found := f2.set 1 [y0]) (upper := [x0, x1, x2]) (scale := x2) (lead := x2) (c := y0) (own := a * D) d0 (by decide) (.inr (.inr (by rw [List.length_set, l2]; decide))) (fun z => absurd z (by decide)) (fun _ => by
          show -(y0 * y0).fdiv x2 = a * D
          rw [fdiv_eq c2 e2]; omega)
        exact ⟨fd, e5, by rw [e3, List.length_set, l2], e4⟩
    · rw [trim_two d1]
      have hr3 : (fr [x0, x1, x2] [y0, y1]).map (fun n => (-y1 * n).fdiv (y1 ^ 1 * x2 * x2)) = trimI [a * D] := by
        refine div_trim ?_ d1 (.cons ?_ .nil)
        · exact Int.mul_ne_zero (Int.mul_ne_zero (Int.pow_ne_zero d1) c2) c2
        · exact i3
      obtain ⟨f3, l3, g3, e'⟩ := sr_step (f := 2) (at_ := 2) (found := f2.set 1 [y0, y1]) (upper := [x0, x1, x2]) (lower := [y0, y1]) (scale := x2) (lead := x2) (own := y1) d1 (Nat.le_refl 2) (Nat.le_refl 2) rfl d1 hr3
      rw [e']
      rw [List.length_set, l2] at l3
      obtain ⟨fd, e1, e2, e3⟩ := sr_last (f := 1) (found := f3.set 0 (trimI [a * D])) (upper := [y0, y1]) (scale := y1) (lead := y1) (s := a * D) (by rw [List.length_set, l3]; decide) (set_get (by rw [l3]; decide))
      exact ⟨fd, e1, by rw [e2, List.length_set, l3], e3⟩
end K27

set_option Elab.async false
set_option linter.all false
set_option maxRecDepth 100000
set_option maxHeartbeats 4000000
/-! how great the numbers are -/
namespace K27
open PySem PySem.Spec PyProof.Rows L2
/-- less than 2 ^ n in size -/
def Wd (n : Nat) (i : Int) : Prop := i.natAbs < 2 ^ n
theorem Wd.up {n m : Nat} {i : Int} (h : Wd n i) (l : n ≤ m) : Wd m i := Nat.lt_of_lt_of_le h (Nat.pow_le_pow_right (by decide) l)
theorem Wd.zero (n : Nat) : Wd n 0 := Nat.pow_pos (by decide)
theorem Wd.neg {n : Nat} {i : Int} (h : Wd n i) : Wd n (-i) := by unfold Wd; rw [Int.natAbs_neg]; exact h
theorem Wd.mul {n m : Nat} {i j : Int} (h : Wd n i) (g : Wd m j) : Wd (n + m) (i * j) := by
  unfold Wd
  rw [Int.natAbs_mul, Nat.pow_add]
  exact Nat.mul_lt_mul_of_lt_of_le h (Nat.le_of_lt g) (Nat.pow_pos (by decide))
theorem Wd.add {n : Nat} {i j : Int} (h : Wd n i) (g : Wd n j) : Wd (n + 1) (i + j) := by
  unfold Wd at *
  rw [Nat.pow_succ]
  have := Int.natAbs_add_le i j
  omega
theorem Wd.sub {n : Nat} {i j : Int} (h : Wd n i) (g : Wd n j) : Wd (n + 1) (i - j) := by
  rw [Int.sub_eq_add_neg]; exact h.add g.neg
theorem fdiv_abs_pos (i j : Int) (c : 0 < j) : (i.fdiv j).natAbs ≤ i.natAbs := by
  have e := Int.mul_fdiv_add_fmod i j
  generalize hq : i.fdiv j = q at *
  have r1 := Int.fmod_nonneg_of_pos i c
  have r2 := Int.fmod_lt_of_pos i c
  generalize i.fmod j = r at *
  rcases Int.lt_trichotomy q 0 with z | z | z
  · have h3 : j * q + j ≤ q + 1 := by
      have : 0 ≤ (j - 1) * (-q - 1) := Int.mul_nonneg (by omega) (by omega)
      grind
    omega
  · omega
  · have h1 : j * q ≥ q := by
      have : 0 ≤ (j - 1) * q := Int.mul_nonneg (by omega) (by omega)
      grind
    omega
theorem fdiv_abs (i j : Int) (h : j ≠ 0) : (i.fdiv j).natAbs ≤ i.natAbs := by
  rcases Int.lt_or_gt_of_ne h with c | c
  · have := fdiv_abs_pos (-i) (-j) (by omega)
    rw [Int.neg_fdiv_neg, Int.natAbs_neg] at this
    exact this
  · exact fdiv_abs_pos i j c
theorem Wd.fdiv {n : Nat} {i j : Int} (h : Wd n i) (g : j ≠ 0) : Wd n (i.fdiv j) := Nat.lt_of_le_of_lt (fdiv_abs i j g) h
theorem Wd.pow {n : Nat} {i : Int} (h : Wd n i) : ∀ k : Nat, Wd (k * n + 1) (i ^ k)
  | 0 => by unfold Wd; rw [Int.pow_zero]; show 1 < _; rw [Nat.zero_mul]; decide
  | k + 1 => by
    rw [Int.pow_succ]
    exact ((h.pow k).mul h).up (by rw [Nat.add_mul]; omega)
theorem Wd.cm {n m : Nat} {i j : Int} (h : Wd n i) (g : Wd m j) (l : n + m + 2 ≤ 1000000) : CMulW i j := wide_mul (h.up (Nat.le_succ n)) (g.up (Nat.le_succ m)) (Nat.succ_pos _) (Nat.succ_pos _) (by omega)
theorem intBits_le {i : Int} {n : Nat} (h : Wd n i) : Builtin.Int.intBits i ≤ n := by
  unfold Builtin.Int.intBits
  split
  · omega
  · rename_i z
    have z' : i.natAbs ≠ 0 := by simpa using z
    have := (Nat.log2_lt z').mpr h
    omega
/-! the mirror's numbers -/
def WdA (n : Nat) (r : List Int) : Prop := ∀ c ∈ r, Wd n c
theorem WdA.up {n m : Nat} {r : List Int} (h : WdA n r) (l : n ≤ m) : WdA m r := fun c hc => (h c hc).up l
theorem WdA.g {n : Nat} {r : List Int} (h : WdA n r) (k : Nat) : Wd n (g r k) := by
  rcases Nat.lt_or_ge k r.length with c | c
  · rw [g_some c]; exact h _ (List.getElem_mem _)
  · rw [g_none c]; exact .zero n
theorem WdA.hd {n : Nat} {r : List Int} (h : WdA n r) : Wd n (hd r) := h.g _
theorem oh_wd {h s : Int} {B : Nat} (hb : Wd B h) (hs : s ≠ 0) : ∀ k, Wd ((k + 1) * B) (oh h s k)
  | 0 => hb.up (by omega)
  | k + 1 => by
    have := (hb.mul (oh_wd hb hs k)).fdiv hs
    rw [oh]
    have l : B + (k + 1) * B ≤ (k + 1 + 1) * B := by rw [Nat.add_mul (k + 1)]; omega
    split
    · exact this.neg.up l
    · exact this.up l
theorem subAt_len : ∀ (n : Nat) (t : Int) (bs r : List Int), n + bs.length ≤ r.length → (subAt n t bs r).length = r.length
  | 0, _, [], r, _ => by rw [subAt]
  | 0, _, _ :: _, [], h => by simp at h
  | 0, t, b :: bs, c :: r, h => by rw [subAt, List.length_cons, List.length_cons, subAt_len 0 t bs r (by simp at h ⊢; omega)]
  | n + 1, _, _, [], h => by simp at h
  | n + 1, t, bs, c :: r, h => by rw [subAt, List.length_cons, List.length_cons, subAt_len n t bs r (by simp at h; omega)]
theorem subAt_g : ∀ (n : Nat) (t : Int) (bs r : List Int), n + bs.length ≤ r.length → ∀ k, g (subAt n t bs r) k = if n ≤ k then g r k - t * g bs (k - n) else g r k
  | 0, t, [], r, _, k => by rw [subAt, if_pos (Nat.zero_le _), show g [] (k - 0) = 0 from rfl]; simp
  | 0, _, _ :: _, [], h, k => by simp at h
  | 0, t, b :: bs, c :: r, h, k => by
    rw [subAt, if_pos (Nat.zero_le _)]
    cases k with
    | zero => rfl
    | succ k =>
      have := subAt_g 0 t bs r (by simp at h ⊢; omega) k
      rw [if_pos (Nat.zero_le _)] at this
      exact this
  | n + 1, _, _, [], h, k => by simp at h
  | n + 1, t, bs, c :: r, h, k => by
    rw [subAt]
    cases k with
    | zero => rw [if_neg (by omega)]; rfl
    | succ k =>
      have := subAt_g n t bs r (by simp at h; omega) k
      show g (subAt n t bs r) k = if n + 1 ≤ k + 1 then g r k - t * g bs (k + 1 - (n + 1)) else g r k
      rw [this, Nat.add_sub_add_right]
      simp only [Nat.add_le_add_iff_right]
theorem row_eq {r s : List Int} (l : r.length = s.length) (h : ∀ k, g r k = g s k) : r = s := List.ext_getElem l fun k h1 h2 => by rw [← g_some h1, ← g_some h2, h]
theorem subAt_wd {n A B : Nat} {t : Int} {bs r : List Int} (ht : Wd A t) (hb : WdA B bs) (hr : WdA (A + B) r) (l : n + bs.length ≤ r.length) : WdA (A + B + 1) (subAt n t bs r) := fun c hc => by
  obtain ⟨k, hk, e⟩ := List.getElem_of_mem hc
  rw [← e, ← g_some hk, subAt_g n t bs r l]
  split
  · exact (hr.g k).sub (ht.mul (hb.g _))
  · exact (hr.g k).up (by omega)
theorem WdA.scl {n m : Nat} {t : Int} {r : List Int} (ht : Wd n t) (h : WdA m r) : WdA (n + m) (r.map fun c => t * c) := fun c hc => by
  obtain ⟨x, hx, rfl⟩ := List.mem_map.mp hc
  exact ht.mul (h x hx)
theorem frGo_wd {bb : List Int} {B : Nat} (hb : WdA B bb) : ∀ (n : Nat) {A : Nat} {r : List Int}, WdA A r → bb.length + n = r.length + 1 → 1 ≤ bb.length → WdA (A + n * (B + 1)) (frGo bb n r) ∧ (frGo bb n r).length + 1 = bb.length
  | 0, A, r, h, l, _ => ⟨by rw [frGo]; exact h.up (by omega), by rw [frGo]; omega⟩
  | n + 1, A, r, h, l, l1 => by
    rw [frGo]
    have ll : n + bb.dropLast.length ≤ (r.dropLast.map fun c => hd bb * c).length := by rw [List.length_map, List.length_dropLast, List.length_dropLast]; omega
    have w : WdA (A + B + 1) (subAt n (hd r) bb.dropLast (r.dropLast.map fun c => hd bb * c)) :=
      subAt_wd h.hd (fun c hc => hb c (List.dropLast_subset _ hc)) ((WdA.scl hb.hd (fun c hc => h c (List.dropLast_subset _ hc))).up (by omega)) ll
    have := frGo_wd hb n w (by rw [subAt_len _ _ _ _ ll, List.length_map, List.length_dropLast]; omega) l1
    exact ⟨this.1.up (by rw [Nat.add_mul]; omega), this.2⟩
theorem WdA.trim {n : Nat} {r : List Int} (h : WdA n r) : WdA n (trimI r) := fun c hc => h c (trimBy_mem _ _ hc)
end K27

set_option Elab.async false
set_option linter.all false
set_option maxRecDepth 100000
set_option maxHeartbeats 4000000
/-! for i, x in enumerate(t), t a tuple -/
namespace Tw
open PySem PySem.Spec PyProof.Rows L2
/-- the tuple's iterator, the enumerate over it, as they are made -/
def itO (p : Addr) : Obj :=
  { cls := .type "tuple_iterator", data := .fields #[.ref p, .int 0 0] }
def enO (i : Addr) : Obj :=
  { cls := .type "enumerate", data := .fields #[.none, .bool false, .ref i, rawInt 0, .none, .none] }
theorem enum_newT (p : Addr) (its : Array Value) (k : Nat) (dd : Option Addr) (sl : Array (Option Value)) :
    Meets (Builtin.«enumerate.__new__» ⟨[.type "enumerate", .ref p], []⟩) (fun _ R s =>
      s.heap.get? p = some ⟨.type "tuple", dd, .seq its k, sl⟩ ∧
      R (.ok (.ret (.ref (s.heap.push (itO p)).objs.size))) { s with heap := (s.heap.push (itO p)).push (enO s.heap.objs.size) }) := by
  refine .of_wp fun prog w A R s h => ?_
  obtain ⟨hp, gn, dr, tk, os⟩ := s
  obtain ⟨hl, h⟩ := h
  have hsub := sub_enumerate
  have isT : (Shared.heap ⟨hp, gn, dr, tk, os⟩).IsTuple p its := ⟨_, hl, rfl, k, rfl⟩
  wp_walk using AutoSeq1.wpAny_loadPart' hl
  refine wpAny_stack_any fun _ => ?_
  refine wpAny_pure ?_
  split
  · rename_i c _ _ _ _ _
    cases (c == Value.type "enumerate") <;>
    · wp_walk using AutoSeq1.wpAny_loadPart' hl, wpAny_pyIter_tuple isT
      exact ⟨_, rfl, h⟩
  · wp_walk using AutoSeq1.wpAny_loadPart' hl, wpAny_pyIter_tuple isT
    exact ⟨_, rfl, h⟩
section
variable {prog : Program} {w : World} {A : Around} {E : Value → Shared → Prop} {s : Shared}
theorem call_enumT {p : Addr} {its : Array Value} {Q : Value → Shared → Prop} (hT : s.heap.IsTuple p its)
    (h : ∀ h', IsEnum h' (s.heap.objs.size + 1) s.heap.objs.size 0 .none → h'.IsTupleIter s.heap.objs.size p 0 →
      (∀ b o, s.heap.get? b = some o → h'.get? b = some o) → Q (.ref (s.heap.objs.size + 1)) { s with heap := h' }) :
    wpAny (model prog w) A (call (.type "enumerate") [.ref p]) Q E s := by
  obtain ⟨⟨c, dd, dt, sl⟩, hl, hc, k, hd⟩ := hT
  cases (show c = .type "tuple" from hc)
  cases (show dt = .seq its k from hd)
  have z1 : (s.heap.push (itO p)).objs.size = s.heap.objs.size + 1 := Heap.size_push ..
  have g1 : ((s.heap.push (itO p)).push (enO s.heap.objs.size)).get? (s.heap.objs.size + 1) = some (enO s.heap.objs.size) := by
    rw [← z1]
    exact Heap.get?_push_size _ rfl
  have g0 : ((s.heap.push (itO p)).push (enO s.heap.objs.size)).get? s.heap.objs.size = some (itO p) :=
    Heap.get?_push_of_some _ (Heap.get?_push_size _ rfl)
  refine callType_new F.called_enumerate (by decide) (F.typeCall_enumerate_1 _) (F.newCall_enumerate_1 _)
    (fun obj => F.args_object_init_2 obj _) F.entry_enumerate_new (enum_newT p its k dd sl) ⟨hl, ?_⟩
  show _ ∧ _
  rw [z1]
  exact ⟨⟨_, g1, rfl⟩, h _ g1 ⟨_, g0, rfl, rfl⟩ fun b o y => Heap.get?_push_of_some _ (Heap.get?_push_of_some _ y)⟩
end
/-- the tuple at a, each item in a new pair with its number -/
def IteT (K : PySem.W.Frag) (a : Addr) : It where
  go := fun i H => ∃ (xs : List V) (x : V), SqT K H a xs ∧ xs[i]? = some x
  yld := fun i H v H' => ∃ t x, v = .ref t ∧ H t = none ∧ H' = upd H t (.tup [.int (i : Nat), x]) ∧
    ∀ xs, SqT K H a xs → xs[i]? = some x
  stop := fun i H => ∃ xs : List V, SqT K H a xs ∧ xs.length = i
theorem apart {h : Heap} {a b : Addr} {o u : Obj} {m n : String} (ha : h.get? a = some o) (hb : h.get? b = some u)
    (ca : o.cls = .type m) (cb : u.cls = .type n) (d : m ≠ n) : a ≠ b := by
  rintro rfl
  rw [ha] at hb
  cases hb
  rw [ca] at cb
  cases cb
  exact d rfl
theorem turn_enumT {P : Program} {w : World} {K : PySem.W.Frag} {elts : List Expr} {kk : Nat} {tpos : Pos} (a e it : Addr) :
    Turn P w K (.Tuple elts kk tpos) (IteT K a) [e, it] e
      (fun i h => (∃ old, IsEnum h e it ((i : Nat) : Int) old) ∧ h.IsTupleIter it a i ∧ e ≠ it) where
  mem := by simp
  obj := fun i h st b hb => by
    obtain ⟨⟨old, he⟩, ⟨o, ho, hc, hd⟩, _⟩ := st
    rcases List.mem_cons.mp hb with z | z
    · subst z; exact ⟨_, he, fun v q => nomatch q⟩
    · have z := List.mem_singleton.mp z
      subst z; exact ⟨o, ho, fun v q => by rw [hd] at q; cases q⟩
  keep := fun i h h' st k => by
    obtain ⟨⟨old, he⟩, hi, hne⟩ := st
    exact ⟨⟨old, k e (by simp) _ he⟩, hi.at fun o q => k it (by simp) o q, hne⟩
  item := by
    intro X hP hw hK hc i pins s σ H E I hf st hg
    subst hP hw hK
    obtain ⟨⟨old, he⟩, hit, hne⟩ := st
    obtain ⟨xs, x, hq, hx⟩ := hg
    obtain ⟨its, rv, p, hz⟩ := I.tuple hq
    obtain ⟨u, hu, ru⟩ := rv.get hx
    have isT : s.heap.IsTuple a its.toArray := p
    obtain ⟨oa, ga, ca, _⟩ := id isT
    obtain ⟨oi, gi, ci, _⟩ := id hit
    have nai : a ≠ it := apart ga gi ca ci (by decide)
    have nea : e ≠ a := apart he ga rfl ca (by decide)
    have hel : e < s.heap.objs.size := Heap.lt_size he
    have hil : it < s.heap.objs.size := Heap.lt_size gi
    have hlt : i < its.toArray.size := by
      have := (List.getElem?_eq_some_iff.mp hu).1
      simpa using this
    refine wpAny_pyNext_enum_itemD (Draws.tuple (A := X.A.in1) (I.ok.hd hc) it a nai its.toArray) he ⟨hit, isT⟩ hlt hne
      (by simp [hne, nea]) fun y h' tk hy ho st' hT hsz hk => ?_
    have yu : y = u := by
      have : its[i]? = some y := by simpa using hy
      rw [hu] at this
      cases this; rfl
    subst yu
    refine ⟨_, rfl, wpAny_letOwnedTupleGo_enum (s := { s with heap := h', toks := tk + 1 }) ho fun h2 he2 sb => ?_⟩
    have hT2 := (sb.2 _ (Nat.ne_of_gt hel)).trans hT
    have new : ObjOk X.prog X.w (upd H s.heap.objs.size (.tup [.int (i : Nat), x])) h2 s.heap.objs.size (.tup [.int (i : Nat), x]) :=
      ⟨by show 2 ≤ sizeLine; decide, [.int i tk, y], .cons ⟨_, rfl⟩ (.cons ru .nil), ⟨_, hT2, rfl, _, rfl⟩⟩
    have old2 : ∀ b ob, b ∉ [e, it] → s.heap.get? b = some ob → h2.get? b = some ob := fun b ob hb q => by
      have b1 : b ≠ e := fun z => hb (by simp [z])
      have b2 : b ≠ it := fun z => hb (by simp [z])
      exact (sb.2 b b1).trans (hk b ob b1 b2 q)
    have I1 := I.turnedNew (t' := tk + 1) (ch := [e, it]) old2 hf (Nat.le_refl _) new
    refine ⟨.ref s.heap.objs.size, _, I1, rfl, ⟨_, x, rfl, I.hok.fresh (Nat.le_refl _), rfl, fun ys hy => by rw [I.tuple_inj hy hq]; exact hx⟩,
      ⟨⟨y, he2⟩, st'.1.at fun o q => (sb.2 it (Ne.symm hne)).trans q, hne⟩, fun b hb => ?_⟩
    have hb' : b < s.heap.objs.size := by
      rcases List.mem_cons.mp hb with z | z
      · rw [z]; exact hel
      · rw [List.mem_singleton.mp z]; exact hil
    rw [upd_ne (Nat.ne_of_lt hb')]
    exact (hf b hb).1
  done := by
    intro X hP hw hK hc i pins s σ H E I hf st hg
    subst hP hw hK
    obtain ⟨⟨old, he⟩, hit, hne⟩ := st
    obtain ⟨xs, hq, hx⟩ := hg
    obtain ⟨its, rv, p, hz⟩ := I.tuple hq
    obtain ⟨oa, ga, ca, _⟩ := id (show s.heap.IsTuple a its.toArray from p)
    obtain ⟨oi, gi, ci, _⟩ := id hit
    have nai : a ≠ it := apart ga gi ca ci (by decide)
    obtain ⟨f0, f1, f2, f3, f4, f5⟩ := hf it (by simp)
    have ei : i = its.toArray.size := by
      rw [← hx, rv.length, List.size_toArray]
    subst ei
    refine wpAny_pyNext_enum_endD (Draws.tuple (A := X.A.in1) (I.ok.hd hc) it a nai its.toArray) he ⟨hit, p⟩ fun h' eb => ?_
    exact ⟨rfl, I.turned (t' := s.toks) (fun b o hb q => eb b o hb q) f0 f1 f3 f4 f5⟩
  self := fun A i s Q E st h => by
    obtain ⟨⟨_, he⟩, _⟩ := st
    exact wpAny_pyIter_enum he h
/-- enumerate(e), e a tuple -/
def iEnumT (K : PySem.W.Frag) (te : TE) : TI := fun σ H R =>
  te σ H fun v H1 => ∃ a xs, v = .ref a ∧ SqT K H1 a xs ∧ R (IteT K a) H1
theorem pi_enumT {X : Cx} {e : Expr} {te : TE} {p pos tpos : Pos} {elts : List Expr} {kk : Nat} (hg : Gl X "enumerate")
    (hm : X.mg "enumerate" = none) (he : PE X e te) (hs : starEach [e] X.env = (false, eval e X.env) :: starEach [] X.env := by rfl) :
    PI X (.Tuple elts kk tpos) (.Call (.Name "enumerate" p) [e] [] pos) (iEnumT X.K te) := by
  refine ⟨fun pins s σ H R I h => ?_⟩
  refine Call_ (ld_blt I hg hm boot_enumerate (PyProof.Rows.callWith_type1 (args_cons
    (thn (he.run pins s σ H _ I h) fun u s1 ⟨v, H1, I1, r1, q1⟩ => args_nil ?_) hs) hs rfl))
  obtain ⟨a, xs, rfl, hq, q⟩ := q1
  cases r1
  obtain ⟨its, rv, isT, hz⟩ := I1.tuple hq
  refine call_enumT (show s1.heap.IsTuple a its.toArray from isT) fun h' en ti keep => wpAny_pyIter_enum en ?_
  refine ⟨s1.heap.objs.size + 1, [s1.heap.objs.size + 1, s1.heap.objs.size], _, _, H1, rfl, I1.kept (t' := s1.toks) keep,
    turn_enumT a (s1.heap.objs.size + 1) s1.heap.objs.size, ⟨⟨.none, en⟩, ti, Nat.succ_ne_self _⟩, fun b hb => ?_, q⟩
  have le : s1.heap.objs.size ≤ b := by
    rcases List.mem_cons.mp hb with z | z
    · rw [z]; exact Nat.le_add_right _ _
    · rw [List.mem_singleton.mp z]; exact Nat.le_refl _
  exact I1.fpOk le (I1.hok.fresh le)
/-- a loop over such pairs, its body already read -/
theorem for_enumT {K : PySem.W.Frag} {a : Addr} {xs : List V} {B : (L2.St → Hp → Prop) → V → L2.St → Hp → Prop} {nx : L2.St → Hp → Prop} {σ : L2.St} {H : Hp}
    (Pv : Nat → L2.St → Hp → Prop) (h0 : Pv 0 σ H) (hl : ∀ i σ' H', i ≤ xs.length → Pv i σ' H' → SqT K H' a xs)
    (hs : ∀ (i : Nat) x t σ' H', xs[i]? = some x → Pv i σ' H' → H' t = none → B (Pv (i + 1)) (.ref t) σ' (upd H' t (.tup [.int (i : Nat), x])))
    (hd : ∀ σ' H', Pv xs.length σ' H' → nx σ' H') :
    ∃ W : Nat → Nat → L2.St → Hp → Prop, (∃ m, W 0 m σ H) ∧ ∀ i m σ H, W i m σ H →
      ((IteT K a).stop i H ∧ nx σ H) ∨ ((IteT K a).go i H ∧ ∃ N : L2.St → Hp → Prop, (∀ σ' H', N σ' H' → ∃ m', m' < m ∧ W (i + 1) m' σ' H') ∧
        ∀ x H', (IteT K a).yld i H x H' → B N x σ H') := by
  refine ⟨fun i m σ H => m = xs.length - i ∧ i ≤ xs.length ∧ Pv i σ H, ⟨xs.length, by simp, Nat.zero_le _, h0⟩, ?_⟩
  rintro i m σ' H' ⟨rfl, hi, p⟩
  have ql := hl i σ' H' hi p
  by_cases c : i < xs.length
  · refine Or.inr ⟨⟨xs, xs[i], ql, by simp [c]⟩, Pv (i + 1), fun σ2 H2 p2 => ⟨xs.length - (i + 1), by omega, rfl, c, p2⟩, fun v H2 y => ?_⟩
    obtain ⟨t, x, rfl, nt, rfl, e2⟩ := y
    exact hs i x t σ' H' (e2 xs ql) p nt
  · have e : i = xs.length := by omega
    subst e
    exact Or.inl ⟨⟨xs, ql, rfl⟩, hd σ' H' p⟩
/-- .. in a comprehension -/
theorem lc_enumT {K : PySem.W.Frag} {a : Addr} {xs : List V} {gt : TG} {tt : TT} {te : TE} {vs : List Nat} {σ : L2.St} {H1 : Hp} {D : Addr} {Qd : Hp → Prop}
    (Pv : Nat → Hp → Prop) (h0 : Pv 0 (upd H1 D (.lst []))) (hl : ∀ i H, i ≤ xs.length → Pv i H → SqT K H a xs)
    (hs : ∀ (i : Nat) x t H, xs[i]? = some x → Pv i H → H t = none → gt (.ref t) (wipe σ vs) (upd H t (.tup [.int (i : Nat), x])) fun σ2 H2 =>
      wipe σ2 vs = wipe σ vs ∧ tt σ2 H2 fun b H3 => if b = true then te σ2 H3 fun y H4 => ∃ acc, H4 D = some (.lst acc) ∧
        acc.length < sizeLine ∧ Pv (i + 1) (upd H4 D (.lst (acc ++ [y]))) else Pv (i + 1) H3)
    (hd : ∀ H, Pv xs.length H → Qd H) :
    ∃ W : Nat → Nat → Hp → Prop, (∃ m, W 0 m (upd H1 D (.lst []))) ∧ ∀ i m H, W i m H →
      ((IteT K a).stop i H ∧ Qd H) ∨ ((IteT K a).go i H ∧ ∃ Nx : Hp → Prop, (∀ H', Nx H' → ∃ m', m' < m ∧ W (i + 1) m' H') ∧
        ∀ x H', (IteT K a).yld i H x H' → gt x (wipe σ vs) H' fun σ2 H2 => wipe σ2 vs = wipe σ vs ∧ tt σ2 H2 fun b H3 =>
          if b = true then te σ2 H3 fun y H4 => ∃ acc, H4 D = some (.lst acc) ∧ acc.length < sizeLine ∧
            Nx (upd H4 D (.lst (acc ++ [y]))) else Nx H3) := by
  refine ⟨fun i m H => m = xs.length - i ∧ i ≤ xs.length ∧ Pv i H, ⟨xs.length, by simp, Nat.zero_le _, h0⟩, ?_⟩
  rintro i m H ⟨rfl, hi, p⟩
  have ql := hl i H hi p
  by_cases c : i < xs.length
  · refine Or.inr ⟨⟨xs, xs[i], ql, by simp [c]⟩, Pv (i + 1), fun H2 p2 => ⟨xs.length - (i + 1), by omega, rfl, c, p2⟩, fun v H2 y => ?_⟩
    obtain ⟨t, x, rfl, nt, rfl, e2⟩ := y
    exact hs i x t H (e2 xs ql) p nt
  · have e : i = xs.length := by omega
    subst e
    exact Or.inl ⟨⟨xs, ql, rfl⟩, hd H p⟩
end Tw

set_option Elab.async false
set_option linter.all false
set_option maxRecDepth 100000
set_option maxHeartbeats 8000000
local macro_rules | `(tactic| walk_at "rd") => `(tactic| dsimp only [Evl.tCut, L2.tSeq, L2.tNext, L2.tRet, L2.tRetN, L2.tAsg, L2.gName, L2.tIfS, L2.tDrop, L2.tCons, L2.tNil, L2.tC, L2.tVar, L2.tCB, L2.tAndV, L2.tOrV, L2.tNotV, L2.tB, L2.tTest, L2.tOp, L2.tUn, L2.tNot, L2.tAnd, L2.tOr, L2.tIf, L2.tCall, L2.tTup, L2.tLst, L2.tNotT, L2.tYes, L2.gTup, L2.gCons, L2.gNil, L2.gSub, L2.tBM0, L2.tBM, L2.tWhile, L2.tFor, L2.iRng1, L2.iRng2, L2.tAugS, Tw.iEnumT, L2.tCKw, L2.tAug, L2.ipI, RT.iRevA, L2.iRevR, L2.tPar, L2.tPar3, L2.tSl, L2.tNoPart, L2.tPart, Tw.tRevT, L2.rAdd, L2.rSub, L2.tBits])
namespace K27
open PySem PySem.Spec PyProof.Rows L2 Tw
/-! powers, numbers packed and unpacked -/
/-- a loop over a tuple turned round, its body already read -/
theorem for_rev {K : PySem.W.Frag} {a : Addr} {xs : List V} {B : (L2.St → Hp → Prop) → V → L2.St → Hp → Prop} {nx : L2.St → Hp → Prop} {σ : L2.St} {H : Hp} (Pv : Nat → L2.St → Hp → Prop) (h0 : Pv 0 σ H)
    (hl : ∀ i σ' H', i ≤ xs.length → Pv i σ' H' → SqT K H' a xs)
    (hs : ∀ (i : Nat) x σ' H', i < xs.length → xs[xs.length - 1 - i]? = some x → Pv i σ' H' → B (Pv (i + 1)) x σ' H') (hd : ∀ σ' H', Pv xs.length σ' H' → nx σ' H') :
    ∃ W : Nat → Nat → L2.St → Hp → Prop, (∃ m, W 0 m σ H) ∧ ∀ i m σ H, W i m σ H →
      ((RT.ItvT K a xs.length).stop i H ∧ nx σ H) ∨ ((RT.ItvT K a xs.length).go i H ∧ ∃ N : L2.St → Hp → Prop, (∀ σ' H', N σ' H' → ∃ m', m' < m ∧ W (i + 1) m' σ' H') ∧ ∀ x H', (RT.ItvT K a xs.length).yld i H x H' → B N x σ H') := by
  refine ⟨fun i m σ H => m = xs.length - i ∧ i ≤ xs.length ∧ Pv i σ H, ⟨xs.length, by simp, Nat.zero_le _, h0⟩, ?_⟩
  rintro i m σ' H' ⟨rfl, hi, p⟩
  have ql := hl i σ' H' hi p
  by_cases c : i < xs.length
  · have hx : xs.length - 1 - i < xs.length := by omega
    refine Or.inr ⟨⟨c, xs, xs[xs.length - 1 - i], ql, List.getElem?_eq_getElem hx⟩, Pv (i + 1), fun σ2 H2 p2 => ⟨xs.length - (i + 1), by omega, rfl, c, p2⟩, fun x H2 y => ?_⟩
    obtain ⟨e1, e2⟩ := y
    subst e1
    exact hs i x σ' _ c (e2 xs ql) p
  · have e : i = xs.length := by omega
    subst e
    exact Or.inl ⟨Nat.le_refl _, hd σ' H' p⟩
theorem ip_mulW {X : Cx} : PIp X .Mult (fun x y H Q => ∃ i j, x = .int i ∧ y = .int j ∧ CMulW i j ∧ Q (.int (i * j)) H) := by
  intro pins s σ H x y v u Q I r1 r2 h
  obtain ⟨i, j, rfl, rfl, c, q⟩ := h
  obtain ⟨t, rfl⟩ := r1
  obtain ⟨t', rfl⟩ := r2
  exact PyProof.Rows.imul_int ⟨.int _, H, I.tok _, ⟨_, rfl⟩, q⟩ c.ok
theorem pow_turn {b f : Int} {k : Nat} : (if k % 2 = 1 then f * b else f) * (b * b) ^ (k / 2) = f * b ^ k := by
  have e : b ^ k = (b * b) ^ (k / 2) * b ^ (k % 2) := by
    conv => lhs; rw [← Nat.div_add_mod k 2]
    rw [Int.pow_add, Int.pow_mul]
    congr 2
    rw [Int.pow_succ, Int.pow_succ, Int.pow_zero, Int.one_mul]
  rcases Nat.mod_two_eq_zero_or_one k with z | z
  · rw [if_neg (by omega), e, z, Int.pow_zero, Int.mul_one]
  · rw [if_pos z, e, z]
    rw [show b ^ 1 = b from by rw [Int.pow_succ, Int.pow_zero, Int.one_mul]]
    grind
def spPower : Sp := fun vs H Q _ => ∃ (m : Int) (k B : Nat), vs = [.int m, .int (k : Int)] ∧ Wd B m ∧ 2 * (k * B) + 10 ≤ 1000000 ∧ k ≤ 1000 ∧ ∀ H', Same H H' → Q (.int (m ^ k)) H'
def spPacked : Sp := fun vs H Q _ => ∃ (u : V) (row : List Int) (b : Nat), vs = [u, .int (b : Int)] ∧ Ro H u row ∧ row.length ≤ 100 ∧ b ≤ 10000 ∧ nm row < 2 ^ b ∧ ∀ H', Same H H' → Q (.int (ev (2 ^ b) row)) H'
def spUnpacked : Sp := fun vs H Q _ => ∃ (b : Nat) (r : List Int), vs = [.int (ev (2 ^ b) r), .int (b : Int)] ∧ okR r ∧ r.length ≤ 1000 ∧ 2 ≤ b ∧ b ≤ 10000 ∧ (∀ c ∈ r, 2 * c.natAbs < 2 ^ b) ∧ ∀ z H', Same H H' → Ro H' z r → Q z H'
theorem nm_drop : ∀ (r : List Int) (k : Nat), nm (r.drop k) ≤ nm r
  | [], k => by simp
  | a :: r, 0 => Nat.le_refl _
  | a :: r, k + 1 => by rw [List.drop_succ_cons, nm]; have := nm_drop r k; omega
theorem ev_wd {b : Nat} {r : List Int} (h : nm r < 2 ^ b) : Wd (b * r.length + b) (ev (2 ^ b) r) := by
  have h1 := ev_le (2 ^ b) (Nat.pow_pos (by decide)) (n := r.length) (r := r) (by omega)
  rw [← Nat.pow_mul] at h1
  unfold Wd
  have e : ((2 ^ b : Nat) : Int) = (2 : Int) ^ b := by rw [Int.natCast_pow]; rfl
  rw [e] at h1
  refine Nat.lt_of_le_of_lt h1 ?_
  rw [Nat.pow_add, Nat.mul_comm]
  exact Nat.mul_lt_mul_of_le_of_lt (Nat.le_refl _) h (Nat.pow_pos (by decide))
theorem drop_top {r : List Int} {k : Nat} (h : k < r.length) : r.drop (r.length - (k + 1)) = r[r.length - 1 - k] :: r.drop (r.length - k) := by
  have e1 : r.length - (k + 1) = r.length - 1 - k := by omega
  have e2 : r.length - k = r.length - 1 - k + 1 := by omega
  rw [e1, e2, ← List.drop_eq_getElem_cons (by omega)]
section
variable {P : Program} {w : World} {K : PySem.W.Frag} {mg : Str → Option Value} {base : Heap}
theorem scPower : FnScope ["base", "many", "found"] ["base", "many"] (defScope sPower) := ⟨rfl, rfl, rfl, by decide +kernel, rfl, by decide +kernel, by decide +kernel⟩
theorem ok_power (D : Def K mg "power" sPower ["base", "many"]) : Cal P w K mg base "power" 1 ["base", "many"] spPower := by
  refine D.ok scPower (fun vs H Q E h => ?_) (fun f cdv A out s H vs Q E hr h => ?_)
  · obtain ⟨m, k, B, rfl, _⟩ := h; rfl
  obtain ⟨m, k, B, rfl, mB, kB, k1, q⟩ := h
  refine ⟨_, pss_cons (ps_set (i := 2) scPower.nd rfl (Or.inl rfl) pe_int)
    (pss_cons (ps_while PassesOwn.never (pt_truth (pv 1) (fun _ => rfl))
      (Evl.pss_cut (ps_if (pt_truth (pe_op op_odd (pv 1) pe_int) (fun _ => rfl)) (pss_one (ps_aug (i := 2) scPower.nd rfl (Or.inl rfl) (pv 0) ip_mulW)) pss_nil)
      (pss_cons (ps_aug (i := 1) scPower.nd rfl (Or.inl rfl) pe_int ip_half)
      (pss_one (ps_if (pt_truth (pv 1) (fun _ => rfl)) (pss_one (ps_aug (i := 0) scPower.nd rfl (Or.inl rfl) (pv 0) ip_mulW)) pss_nil)))))
    (pss_one (ps_ret (pv 2)))), ?_⟩
  walk_at "rd"
  refine ⟨fun j σ H' => ∃ (b f : Int) (x y : Nat), σ = [some (.int b), some (.int (j : Int)), some (.int f)] ∧ b = m ^ x ∧ f = m ^ y ∧ y + x * j = k ∧ f * b ^ j = m ^ k ∧ H' = H, ⟨k, m, 1, 1, 0, rfl, by rw [Int.pow_succ, Int.pow_zero, Int.one_mul], by rw [Int.pow_zero], by omega, by rw [Int.one_mul], rfl⟩, ?_⟩
  rintro j σ H1 ⟨b, f, x, y, rfl, eb, ef, xy, e, rfl⟩
  refine ⟨.int j, rfl, _, rfl, ?_⟩
  by_cases c : j = 0
  · subst c
    refine iteF ⟨_, rfl, ?_⟩
    have : f = m ^ k := by simpa using e
    rw [this]
    exact q _ (Same.refl _)
  rw [show ((j : Int) != 0) = true from bne_iff_ne.mpr (by omega)]
  have xk : x ≤ k := by
    have := Nat.mul_le_mul_left x (show 1 ≤ j by omega)
    omega
  have yk : y ≤ k := by omega
  have wb : Wd (k * B + 1) b := by rw [eb]; exact (mB.pow x).up (by have := Nat.mul_le_mul_right B xk; omega)
  have wf : Wd (k * B + 1) f := by rw [ef]; exact (mB.pow y).up (by have := Nat.mul_le_mul_right B yk; omega)
  refine iteT ⟨fun σ' H' => ∃ (j' : Nat) (b f : Int) (x y : Nat), j' < j ∧ σ' = [some (.int b), some (.int (j' : Int)), some (.int f)] ∧ b = m ^ x ∧ f = m ^ y ∧ y + x * j' = k ∧ f * b ^ j' = m ^ k ∧ H' = H1, fun σ' H' ⟨j', b', f', x', y', a1, a2, a3, a4, a5, a6, a7⟩ => ⟨j', a1, b', f', x', y', a2, a3, a4, a5, a6, a7⟩, ?_⟩
  refine ⟨fun σ' H' => ∃ y', σ' = [some (.int b), some (.int (j : Int)), some (.int (if j % 2 = 1 then f * b else f))] ∧ H' = H1 ∧ (if j % 2 = 1 then f * b else f) = m ^ y' ∧ y' = y + x * (j % 2), ?_, ?_⟩
  · refine ⟨.int j, rfl, j, rfl, rfl, _, rfl, ?_⟩
    rcases Nat.mod_two_eq_zero_or_one j with z | z
    · rw [z]
      refine iteF ⟨y, ?_, rfl, ?_, by omega⟩
      · rw [if_neg (by omega)]
      · rw [if_neg (by omega)]; exact ef
    · rw [z]
      refine iteT ⟨.int f, rfl, .int b, rfl, f, b, rfl, rfl, wf.cm wb (by omega), y + x, ?_, rfl, ?_, by omega⟩
      · rw [if_pos rfl]
        rfl
      · rw [if_pos rfl, ef, eb, Int.pow_add]
  · rintro σ2 H2 ⟨y', rfl, rfl, ey, yx⟩
    refine ⟨.int j, rfl, j, rfl, rfl, .int ((j / 2 : Nat) : Int), rfl, _, rfl, ?_⟩
    have tn := pow_turn (b := b) (f := f) (k := j)
    generalize (if j % 2 = 1 then f * b else f) = f' at tn ey ⊢
    have jl : j / 2 < j := Nat.div_lt_self (by omega) (by decide)
    have jd : y' + 2 * x * (j / 2) = k := by
      have := Nat.div_add_mod j 2
      have h2 : x * j = x * (2 * (j / 2) + j % 2) := by rw [this]
      rw [Nat.mul_add] at h2
      have h3 : x * (2 * (j / 2)) = 2 * x * (j / 2) := by rw [← Nat.mul_assoc, Nat.mul_comm x 2]
      omega
    by_cases z : j / 2 = 0
    · rw [z] at tn jd ⊢
      refine iteF ⟨0, b, f', x, y', by omega, rfl, eb, ey, by omega, ?_, rfl⟩
      rw [← e, ← tn]
      simp
    · rw [show (((j / 2 : Nat) : Int) != 0) = true from bne_iff_ne.mpr (by omega)]
      refine iteT ⟨.int b, rfl, .int b, rfl, b, b, rfl, rfl, wb.cm wb (by omega), ?_⟩
      exact ⟨j / 2, b * b, f', 2 * x, y', jl, rfl, by rw [eb, ← Int.pow_add]; congr 1; omega, ey, jd, by rw [tn, e], rfl⟩
theorem scPacked : FnScope ["row", "bits", "total", "number"] ["row", "bits"] (defScope sPacked) := ⟨rfl, rfl, rfl, by decide +kernel, rfl, by decide +kernel, by decide +kernel⟩
theorem ok_packed (D : Def K mg "packed" sPacked ["row", "bits"]) (nb : Nb mg) : Cal P w K mg base "packed" 1 ["row", "bits"] spPacked := by
  refine D.ok scPacked (fun vs H Q E h => ?_) (fun f cdv A out s H vs Q E hr h => ?_)
  · obtain ⟨u, row, b, rfl, _⟩ := h; rfl
  obtain ⟨u, row, b, rfl, ⟨pu, rfl, eu⟩, lr, b1, nmr, q⟩ := h
  refine ⟨_, pss_cons (ps_set (i := 2) scPacked.nd rfl (Or.inl rfl) pe_int)
    (pss_cons (ps_for PassesOwn.never rfl (RT.pi_revA (by rfl) nb.rev (pv 0)) (pg_name (i := 3) scPacked.nd rfl (Or.inl rfl))
      (pss_one (ps_set (i := 2) scPacked.nd rfl (Or.inl rfl) (pe_op op_add (pe_op op_shlN (pv 2) (pv 1)) (pv 3)))))
    (pss_one (ps_ret (pv 2)))), ?_⟩
  walk_at "rd"
  refine ⟨.ref pu, rfl, pu, row.map V.int, rfl, .inr ⟨SqT.of eu, for_rev (xs := row.map V.int) (fun i σ H' => ∃ x3, σ = [some (.ref pu), some (.int (b : Int)), some (.int (ev (2 ^ b) (row.drop (row.length - i)))), x3] ∧ H' = H) ?_ ?_ ?_ ?_⟩⟩
  · refine ⟨none, ?_, rfl⟩
    rw [Nat.sub_zero, List.drop_length]
    rfl
  · rintro i σ H1 hi ⟨x3, rfl, rfl⟩
    exact SqT.of eu
  · rintro i x σ H1 hi hx ⟨x3, rfl, rfl⟩
    rw [List.length_map] at hi hx
    have hix : row.length - 1 - i < row.length := by omega
    rw [List.getElem?_map, List.getElem?_eq_getElem hix] at hx
    cases hx
    have w0 := ev_wd (b := b) (r := row.drop (row.length - i)) (Nat.lt_of_le_of_lt (nm_drop _ _) nmr)
    rw [List.length_drop] at w0
    have e := drop_top hi
    refine ⟨_, rfl, _, rfl, _, b, rfl, rfl, ⟨by omega, ?_⟩, _, rfl, _, _, rfl, rfl, some (.int row[row.length - 1 - i]), ?_, rfl⟩
    · have := intBits_le w0
      have h2 := Nat.mul_le_mul_left b (show row.length - (row.length - i) ≤ 100 by omega)
      have h3 : (2 : Int) ^ 27 = 134217728 := by decide +kernel
      omega
    · rw [e, ev]
      rw [Int.mul_comm, Int.add_comm]
      rfl
  · rintro σ H1 ⟨x3, rfl, rfl⟩
    rw [List.length_map, Nat.sub_self, List.drop_zero]
    exact ⟨_, rfl, q _ (Same.refl _)⟩
theorem scUnpacked : FnScope ["value", "bits", "half", "mask", "found", "number"] ["value", "bits"] (defScope sUnpacked) := ⟨rfl, rfl, rfl, by decide +kernel, rfl, by decide +kernel, by decide +kernel⟩
theorem ok_unpacked (D : Def K mg "unpacked" sUnpacked ["value", "bits"]) (nb : Nb mg) : Cal P w K mg base "unpacked" 1 ["value", "bits"] spUnpacked := by
  refine D.ok scUnpacked (fun vs H Q E h => ?_) (fun f cdv A out s H vs Q E hr h => ?_)
  · obtain ⟨b, r, rfl, _⟩ := h; rfl
  obtain ⟨b, r, rfl, okr, lr, b2, b1, hc, q⟩ := h
  refine ⟨_, pss_cons (ps_set (i := 2) scUnpacked.nd rfl (Or.inl rfl) (pe_op op_oneShl pe_int (pe_op op_sub (pv 1) pe_int)))
    (pss_cons (ps_set (i := 3) scUnpacked.nd rfl (Or.inl rfl) (pe_op op_sub (pe_op op_oneShl pe_int (pv 1)) pe_int))
    (pss_cons (ps_set (i := 4) scUnpacked.nd rfl (Or.inl rfl) (pe_lst pa_nil))
    (pss_cons (ps_while PassesOwn.never (pt_truth (pv 0) (by intro _; rfl))
      (pss_cons (ps_set (i := 5) scUnpacked.nd rfl (Or.inl rfl) (pe_op op_sub (pe_op op_andM (pe_op op_add (pv 0) (pv 2)) (pv 3)) (pv 2)))
    (pss_cons (ps_expr (pe_bm PySem.F.plainAttrs_list PySem.F.slot_list_append PySem.F.type_list_append mt_append (pv 4) (pa_cons (pv 5) pa_nil)))
    (pss_one (ps_set (i := 0) scUnpacked.nd rfl (Or.inl rfl) (pe_op op_shrN (pe_op op_sub (pv 0) (pv 5)) (pv 1)))))))
    (pss_one (ps_ret (pe_callTy (T := "tuple") call_tuple_of (by rfl) nb.tup (by decide +kernel) (pa_cons (pv 4) pa_nil))))))), ?_⟩
  walk_at "rd"
  refine ⟨_, rfl, _, _, rfl, rfl, ?_⟩
  dsimp only
  rw [show (b : Int) - 1 = ((b - 1 : Nat) : Int) by omega]
  refine ⟨b - 1, rfl, rfl, by omega, _, rfl, b, rfl, rfl, by omega, _, _, rfl, rfl, sz (by simp), fun L nL => ?_⟩
  have s0 := same_new (o := .lst []) nL
  have X2 : (2 : Int) ^ b = 2 * 2 ^ (b - 1) := by
    have h1 : b = (b - 1) + 1 := by omega
    have h2 : (2 : Int) ^ b = 2 ^ ((b - 1) + 1) := by rw [← h1]
    rw [h2, Int.pow_succ, Int.mul_comm]
  have eN : ((2 ^ b : Nat) : Int) = (2 : Int) ^ b := by rw [Int.natCast_pow]; rfl
  have hcz : ∀ c ∈ r, -(2 : Int) ^ (b - 1) ≤ c ∧ c < 2 ^ (b - 1) := fun c h => by
    have := hc c h
    omega
  refine ⟨fun m σ H' => ∃ i x5, m = r.length - i ∧ i ≤ r.length ∧ σ = [some (.int (ev (2 ^ b) (r.drop i))), some (.int (b : Int)), some (.int (2 ^ (b - 1))), some (.int (2 ^ b - 1)), some (.ref L), x5] ∧ Same H H' ∧ H' L = some (.lst ((r.take i).map V.int)), ⟨r.length, 0, none, rfl, Nat.zero_le _, rfl, s0, upd_same⟩, ?_⟩
  rintro m σ H1 ⟨i, x5, rfl, il, rfl, s1, eL⟩
  refine ⟨_, rfl, _, rfl, ?_⟩
  by_cases c : i = r.length
  · have e0 : ev (2 ^ b) (r.drop i) = 0 := by rw [c, List.drop_length]; rfl
    rw [e0]
    refine iteF ⟨.ref L, rfl, L, _, rfl, .inl ⟨SqL.of eL, fun p np => ?_⟩⟩
    rw [c, List.take_length] 
    exact q _ _ (s1.trans (same_new np)) ⟨p, rfl, upd_same⟩
  have hi : i < r.length := by omega
  have ed : r.drop i = r[i] :: r.drop (i + 1) := List.drop_eq_getElem_cons hi
  have okd : okR (r.drop i) := fun z hz => by
    rw [List.getLast?_drop, if_neg (by omega)] at hz
    exact okr z hz
  have v0 : ev (2 ^ b) (r.drop i) ≠ 0 := by
    rw [← eN]
    exact ev_ne okd (fun z => by have := congrArg List.length z; rw [List.length_drop] at this; simp at this; omega) fun z hz => by have := hc z (List.mem_of_mem_drop hz); omega
  rw [show (ev (2 ^ b) (r.drop i) != 0) = true from bne_iff_ne.mpr v0]
  have hz := hcz r[i] (List.getElem_mem _)
  have ev1 : ev (2 ^ b) (r.drop i) = r[i] + 2 ^ b * ev (2 ^ b) (r.drop (i + 1)) := by rw [ed, ev]
  have em : (ev (2 ^ b) (r.drop i) + 2 ^ (b - 1)) % 2 ^ b = r[i] + 2 ^ (b - 1) := by
    rw [ev1, show r[i] + 2 ^ b * ev (2 ^ b) (r.drop (i + 1)) + 2 ^ (b - 1) = r[i] + 2 ^ (b - 1) + 2 ^ b * ev (2 ^ b) (r.drop (i + 1)) by omega, Int.add_mul_emod_self_left]
    exact Int.emod_eq_of_lt (by omega) (by omega)
  refine iteT ⟨fun σ' H' => ∃ x5, σ' = [some (.int (ev (2 ^ b) (r.drop (i + 1)))), some (.int (b : Int)), some (.int (2 ^ (b - 1))), some (.int (2 ^ b - 1)), some (.ref L), x5] ∧ Same H H' ∧ H' L = some (.lst ((r.take (i + 1)).map V.int)), fun σ' H' ⟨x5, h1, h2, h3⟩ => ⟨r.length - (i + 1), by omega, i + 1, x5, rfl, hi, h1, h2, h3⟩, ?_⟩
  refine ⟨_, rfl, _, rfl, _, _, rfl, rfl, _, rfl, _, b, rfl, rfl, _, rfl, _, _, rfl, rfl, ?_⟩
  rw [em]
  dsimp only
  rw [show r[i] + 2 ^ (b - 1) - 2 ^ (b - 1) = r[i] by omega]
  refine ⟨_, rfl, .inl ⟨rfl, _, SqL.of eL⟩, _, rfl, L, _, _, rfl, rfl, eL, lt_line (by rw [List.length_map, List.length_take]; omega), _, rfl, _, rfl, _, _, rfl, rfl, _, rfl, _, b, rfl, rfl, some (.int r[i]), ?_, ?_, ?_⟩
  · have pb : (0 : Int) < 2 ^ b := Int.pow_pos (by decide)
    have e : (ev (2 ^ b) (r.drop i) - r[i]) / 2 ^ b = ev (2 ^ b) (r.drop (i + 1)) := by
      rw [ev1, show r[i] + 2 ^ b * ev (2 ^ b) (r.drop (i + 1)) - r[i] = 2 ^ b * ev (2 ^ b) (r.drop (i + 1)) by omega]
      exact Int.mul_ediv_cancel_left _ (by omega)
    rw [e]
    rfl
  · exact fun x o e => by rw [upd_ne (ne_of_none e nL)]; exact s1 _ _ e
  · rw [upd_same, List.take_add_one, List.getElem?_eq_getElem hi, List.map_append]
    rfl
end
end K27

set_option Elab.async false
set_option linter.all false
set_option maxRecDepth 100000
set_option maxHeartbeats 4000000
local macro_rules | `(tactic| walk_at "rd") => `(tactic| dsimp only [Evl.tCut, L2.tSeq, L2.tNext, L2.tRet, L2.tRetN, L2.tAsg, L2.gName, L2.tIfS, L2.tDrop, L2.tCons, L2.tNil, L2.tC, L2.tVar, L2.tCB, L2.tAndV, L2.tOrV, L2.tNotV, L2.tB, L2.tTest, L2.tOp, L2.tUn, L2.tNot, L2.tAnd, L2.tOr, L2.tIf, L2.tCall, L2.tTup, L2.tLst, L2.tNotT, L2.tYes, L2.gTup, L2.gCons, L2.gNil, L2.gSub, L2.tBM0, L2.tBM, L2.tWhile, L2.tFor, L2.iRng1, L2.tAug, L2.ipI, RT.iRevA, L2.tPar, L2.tPar3, L2.tSl, L2.tNoPart, L2.tPart, Tw.tRevT])
namespace K27
open PySem PySem.Spec PyProof.Rows L2 Tw
def spScR : Sp := fun vs H Q _ => ∃ u r c, vs = [u, .int c] ∧ Ro H u r ∧ okR r ∧ r.length ≤ 100 ∧ c.natAbs < 2 ^ 64 ∧ ∀ z t H', Same H H' → Ro H' z t → okR t → (∀ k, g t k = c * g r k) → Q z H'
theorem g_map (c : Int) (r : List Int) (k : Nat) : g (r.map fun x => c * x) k = c * g r k := by
  rcases Nat.lt_or_ge k r.length with h | h
  · rw [g_some (by rw [List.length_map]; exact h), g_some h, List.getElem_map]
  · rw [g_none (by rw [List.length_map]; exact h), g_none h, Int.mul_zero]
theorem okR_scaled {r : List Int} {c : Int} (h : okR r) (n : c ≠ 0) : okR (r.map fun x => c * x) := fun d hd => by
  rw [List.getLast?_map] at hd
  cases e : r.getLast? with
  | none => rw [e] at hd; cases hd
  | some x =>
    rw [e] at hd
    cases hd
    exact Int.mul_ne_zero n (h x e)
def spLScaled : Sp := fun vs H Q _ => ∃ u r c b, vs = [u, .int c] ∧ Ro H u r ∧ r.length ≤ 100 ∧ c.natAbs < 2 ^ 64 ∧ SB b r ∧ ∀ z t H', Same H H' → Ro H' z t → okR t → t.length ≤ r.length → SB (c.natAbs * b) t → (∀ k, g t k = c * g r k) → Q z H'
def spDerP : Sp := fun vs H Q _ => ∃ u p b, vs = [u] ∧ Po H u p ∧ okP p ∧ Bd 8 b p ∧ ∀ z t H', Same H H' → Po H' z t → okP t → (∀ i j, co t i j = ((i + 1 : Nat) : Int) * co p (i + 1) j) → Q z H'
/-- the last of a product -/
theorem cv_top {f h : Nat → Int} {n m : Nat} (zf : ∀ i, n < i → f i = 0) (zh : ∀ i, m < i → h i = 0) : cv f h (n + m) = f n * h m := by
  unfold cv
  have e : S (n + m + 1) (fun i => f i * h (n + m - i)) = S (n + 1) (fun i => f i * h (n + m - i)) := S_more (by omega) fun i hi => by rw [zf i (by omega), Int.zero_mul]
  rw [e, S, S_ext (h := fun _ => 0) n fun i hi => by rw [zh _ (by omega), Int.mul_zero], S_zero, Int.zero_add]
  congr 2
  omega
theorem okR_last {r : List Int} (h : okR r) (n : r ≠ []) : g r (r.length - 1) ≠ 0 := by
  have l : 0 < r.length := List.length_pos_iff.mpr n
  have e : r.getLast? = some r[r.length - 1] := by rw [List.getLast?_eq_getElem?, List.getElem?_eq_getElem (by omega)]
  rw [g_some (by omega)]
  exact h _ e
theorem okR_prod {a b l : List Int} (ha : okR a) (hb : okR b) (na : a ≠ []) (nb : b ≠ []) (ll : l.length = a.length + b.length - 1) (cl : ∀ k, g l k = cv (g b) (g a) k) : okR l := fun c hc => by
  have la : 0 < a.length := List.length_pos_iff.mpr na
  have lb : 0 < b.length := List.length_pos_iff.mpr nb
  rw [List.getLast?_eq_getElem?] at hc
  have e : g l (l.length - 1) = c := by
    unfold g
    rw [List.getD_eq_getElem?_getD, hc]
    rfl
  rw [cl, show l.length - 1 = (b.length - 1) + (a.length - 1) from by omega, cv_top (fun i hi => g_none (by omega)) (fun i hi => g_none (by omega))] at e
  rw [← e]
  exact Int.mul_ne_zero (okR_last hb nb) (okR_last ha na)
theorem co_rw (p : List (List Int)) (i j : Nat) : co p i j = g (rw' p i) j := rfl
theorem co_none {p : List (List Int)} {i : Nat} (h : p.length ≤ i) (j : Nat) : co p i j = 0 := by
  rw [co_rw, rw_none h]
  rfl
theorem lead_row {p : List (List Int)} (h : okP p) (n : p ≠ []) : okR (rw' p (p.length - 1)) ∧ rw' p (p.length - 1) ≠ [] := by
  have l : 0 < p.length := List.length_pos_iff.mpr n
  have e : p.getLast? = some p[p.length - 1] := by rw [List.getLast?_eq_getElem?, List.getElem?_eq_getElem (by omega)]
  refine ⟨okR_rw h.1 _, ?_⟩
  rw [rw_some (by omega)]
  exact h.2 _ e
section
variable {P : Program} {w : World} {K : PySem.W.Frag} {mg : Str → Option Value} {base : Heap}
theorem scTrimmed : FnScope ["numbers", "last"] ["numbers"] (defScope sTrimmed) := ⟨rfl, rfl, rfl, by decide +kernel, rfl, by decide +kernel, by decide +kernel⟩
theorem cut_to {α : Type} (xs : List V) {m : Nat} (h : m ≤ xs.length) : L2.cutV xs none (some (m : Int)) = xs.take m := by
  unfold L2.cutV
  rw [HT.sIx_nat, HT.sIx_none, List.drop_zero, Nat.sub_zero, Nat.min_eq_left h]
theorem ok_trimmed (D : Def K mg "trimmed" sTrimmed ["numbers"]) (nb : Nb mg) : Cal P w K mg base "trimmed" 1 ["numbers"] spTrimI := by
  refine D.ok scTrimmed (fun vs H Q E h => ?_) (fun f cdv A out s H vs Q E hr h => ?_)
  · obtain ⟨p, l, rfl, _⟩ := h; rfl
  obtain ⟨p, l, rfl, e, q⟩ := h
  refine ⟨_, pss_cons (ps_set (i := 1) scTrimmed.nd rfl (Or.inl rfl) (pe_callB (id := "len") (r := rLn K) call_len_seq (by rfl) nb.len PySem.boot_len (pa_cons (pv 0) pa_nil)))
    (pss_cons (ps_while PassesOwn.never (PW.pt (pw_and (pt_truth (pv 1) (fun _ => rfl)) (pw_and1 (pt_cmpR op_eq (pe_ix ix_list (pv 0) (pe_op op_sub (pv 1) pe_int) (fun _ _ => rfl)) pe_int (nomark _)))))
      (pss_one (ps_aug (i := 1) scTrimmed.nd rfl (Or.inl rfl) pe_int ip_sub)))
    (pss_one (ps_ret (pe_callTy (T := "tuple") call_tuple_of (by rfl) nb.tup (by decide +kernel) (pa_cons (pe_slice sl_list (pv 0) po_none (po_some (pv 1))) pa_nil))))), ?_⟩
  walk_at "rd"
  refine ⟨.ref p, rfl, p, _, rfl, .inl (SqL.of e), ?_⟩
  have hz0 : ∀ (i : Nat) a, l.length ≤ i → l[i]? = some a → (a == 0) = true := by
    intro i a hi ea
    rw [List.getElem?_eq_none hi] at ea
    cases ea
  refine ⟨fun m σ H' => m ≤ l.length ∧ (∀ (i : Nat) a, m ≤ i → l[i]? = some a → (a == 0) = true) ∧ σ = [some (.ref p), some (.int (m : Int))] ∧ H' = H, ⟨l.length, Nat.le_refl _, hz0, by rw [List.length_map]; rfl, rfl⟩, ?_⟩
  rintro m σ H1 ⟨hm, hz, rfl, rfl⟩
  refine ⟨.int m, rfl, _, rfl, ?_⟩
  have fin : (m = 0 ∨ ∃ a, l[m - 1]? = some a ∧ (a == 0) = false) → ∃ v, [some (V.ref p), some (V.int (m : Int))][0]? = some (some v) ∧ ∃ v1, [some (V.ref p), some (V.int (m : Int))][1]? = some (some v1) ∧ ∃ b, v1 = V.int b ∧ rSlL K v none (some b) H1 fun x H2 => ∃ q' ys, [x] = [.ref q'] ∧ ((SqL K H2 q' ys ∧ ∀ t, H2 t = none → Q (.ref t) (upd H2 t (.tup ys))) ∨ (SqT K H2 q' ys ∧ Q (.ref q') H2)) := fun hb => by
    refine ⟨.ref p, rfl, .int m, rfl, m, rfl, p, _, rfl, SqL.of e, fun t nt => ⟨t, _, rfl, .inl ⟨SqL.of upd_same, fun t2 nt2 => ?_⟩⟩⟩
    refine q _ _ ((same_new nt).trans (same_new nt2)) ⟨t2, rfl, ?_⟩
    rw [upd_same, cut_to (α := Nat) _ (by rw [List.length_map]; exact hm), ← List.map_take]
    congr 3
    exact (trimBy_take _ l m hm hz hb).symm
  by_cases c : m = 0
  · subst c
    exact iteF (fin (.inl rfl))
  rw [show ((m : Int) != 0) = true from bne_iff_ne.mpr (by omega)]
  obtain ⟨j, rfl⟩ : ∃ j, m = j + 1 := ⟨m - 1, by omega⟩
  have hj : j < l.length := by omega
  have ej : ((j + 1 : Nat) : Int) - 1 = (j : Int) := by omega
  refine iteT ⟨.ref p, rfl, .int (j + 1 : Nat), rfl, _, _, rfl, rfl, ?_⟩
  walk_at "rd"
  rw [ej]
  refine ⟨p, _, _, .int l[j], rfl, rfl, SqL.of e, atI_nat (by rw [List.getElem?_map, List.getElem?_eq_getElem hj]; rfl), rfl, _, rfl, ?_⟩
  rw [dec_int]
  cases z : (l[j] == 0) with
  | true =>
    refine iteT ⟨fun σ' H' => σ' = [some (.ref p), some (.int (j : Int))] ∧ H' = H1, fun σ' H' h => ⟨j, by omega, by omega, fun i a hi ea => ?_, h.1, h.2⟩, .int (j + 1 : Nat), rfl, _, _, rfl, rfl, ?_, rfl⟩
    · rcases Nat.lt_or_eq_of_le hi with y | y
      · exact hz i a y ea
      · subst y
        rw [List.getElem?_eq_getElem hj] at ea
        cases ea
        exact z
    · show [some (V.ref p), some (V.int (((j + 1 : Nat) : Int) - 1))] = _
      rw [ej]
  | false => exact iteF (fin (.inr ⟨l[j], List.getElem?_eq_getElem hj, z⟩))
theorem scPRScaled : FnScope ["row", "whole", "number"] ["row", "whole"] (defScope sPRScaled) := ⟨rfl, rfl, rfl, by decide +kernel, rfl, by decide +kernel, by decide +kernel⟩
theorem ok_prscaled (D : Def K mg "row_scaled" sPRScaled ["row", "whole"]) (nb : Nb mg) : Cal P w K mg base "row_scaled" 1 ["row", "whole"] spScR := by
  refine D.ok scPRScaled (fun vs H Q E h => ?_) (fun f cdv A out s H vs Q E hr h => ?_)
  · obtain ⟨u, r, c, rfl, _⟩ := h; rfl
  obtain ⟨u, r, c, rfl, hu, okr, lr, c64, q⟩ := h
  refine ⟨_, pss_cons (ps_if (pt_cmpR op_eq (pv 1) pe_int (nomark _)) (pss_one (ps_ret (pe_tup pa_nil))) pss_nil)
    (pss_one (ps_ret (pe_callTy (T := "tuple") call_tuple_of (by rfl) nb.tup (by decide +kernel) (pa_cons
      (pe_lc (own := [("number", 2)]) (g := gName 2) (tt := tYes) rfl scPRScaled.nd (pi_tup (pv 0)) (blkOk_by (N := ["row", "whole", "number"]) (sc := defScope sPRScaled) (by decide +kernel))
        (fun _ _ _ _ _ => pg_name (i := 2) scPRScaled.nd rfl (Or.inl rfl)) (fun _ _ _ _ _ => pts_nil) (fun _ _ _ _ _ => pe_op op_mul (pv 1) (pv 2))) pa_nil)))), ?_⟩
  walk_at "rd"
  obtain ⟨pu, rfl, eu⟩ := hu
  refine ⟨.int c, rfl, rfl, _, rfl, ?_⟩
  rw [dec_int]
  by_cases z : c = 0
  · subst z
    exact iteT ⟨sz (by simp), fun p np => q _ [] _ (same_new np) ⟨p, rfl, upd_same⟩ okR_nil fun k => by rw [g_none (Nat.zero_le _), Int.zero_mul]⟩
  rw [show (c == 0) = false from beq_eq_false_iff_ne.mpr z]
  refine iteF (lc_relT (S := fun _ v k => v = V.int k) (R := fun _ v k => v = V.int k) (g := fun x => c * x) (rs := r) (p := pu) (xs := r.map V.int) (stable_eq _) (stable_eq _) rfl eu (RelA.of_map _) (by omega) (fun x => wipeJ _ _ _) (fun x d H1 hd s1 rx Z hZ => ?_) fun L ys H1 s1 nL eL ry => ?_)
  · subst rx
    exact ⟨.int c, rfl, .int d, rfl, _, _, rfl, rfl, .inl ⟨by omega, by omega⟩, hZ _ _ (Same.refl _) rfl⟩
  · have ey := RelA.eq_map ry
    refine ⟨L, _, rfl, .inl ⟨SqL.of eL, fun p np => ?_⟩⟩
    exact q _ _ _ (s1.trans (same_new np)) ⟨p, rfl, by rw [upd_same, ey]⟩ (okR_scaled okr z) fun k => g_map c r k
theorem scLScaled : FnScope ["_law_row_here", "_law_by", "_law_each"] ["_law_row_here", "_law_by"] (defScope sLScaled) := ⟨rfl, rfl, rfl, by decide +kernel, rfl, by decide +kernel, by decide +kernel⟩
theorem ok_lscaled (D : Def K mg "_law_scaled" sLScaled ["_law_row_here", "_law_by"]) (c1 : Cal P w K mg base "_law_trim" 1 ["_law_some"] spTrim) : Cal P w K mg base "_law_scaled" 2 ["_law_row_here", "_law_by"] spLScaled := by
  have c2 := c1.imp trim_int
  refine D.ok scLScaled (fun vs H Q E h => ?_) (fun f cdv A out s H vs Q E hr h => ?_)
  · obtain ⟨u, r, c, b, rfl, _⟩ := h; rfl
  obtain ⟨u, r, c, b, rfl, hu, lr, c64, br, q⟩ := h
  refine ⟨_, pss_one (ps_ret (pe_cal c2 hr (by decide) (by rfl) (pa_cons
      (pe_lc (own := [("_law_each", 2)]) (g := gName 2) (tt := tYes) rfl scLScaled.nd (pi_tup (pv 0)) (blkOk_by (N := ["_law_row_here", "_law_by", "_law_each"]) (sc := defScope sLScaled) (by decide +kernel))
        (fun _ _ _ _ _ => pg_name (i := 2) scLScaled.nd rfl (Or.inl rfl)) (fun _ _ _ _ _ => pts_nil) (fun _ _ _ _ _ => pe_op op_mul (pv 1) (pv 2))) pa_nil))), ?_⟩
  walk_at "rd"
  obtain ⟨pu, rfl, eu⟩ := hu
  refine lc_relT (S := fun _ v k => v = V.int k) (R := fun _ v k => v = V.int k) (g := fun x => c * x) (rs := r) (p := pu) (xs := r.map V.int) (stable_eq _) (stable_eq _) rfl eu (RelA.of_map _) (by omega) (fun x => wipeJ _ _ _) (fun x d H1 hd s1 rx Z hZ => ?_) fun L ys H1 s1 nL eL ry => ?_
  · subst rx
    exact ⟨.int c, rfl, .int d, rfl, _, _, rfl, rfl, .inl ⟨by omega, by omega⟩, hZ _ _ (Same.refl _) rfl⟩
  · have ey := RelA.eq_map ry
    refine ⟨L, _, rfl, by rw [eL, ey], fun z H2 s2 r2 => q z _ H2 (s1.trans s2) r2 (okR_trim _) ?_ (sb_trim fun d hd => ?_) fun k => by rw [g_trim]; exact g_map c r k⟩
    · refine Nat.le_trans (trimBy_len _ _) ?_
      rw [List.length_map]
      exact Nat.le_refl _
    · obtain ⟨x, hx, rfl⟩ := List.mem_map.mp hd
      rw [Int.natAbs_mul]
      exact Nat.mul_le_mul_left _ (br x hx)
theorem drop_rw (l : List (List Int)) (i : Nat) : rw' (l.drop 1) i = rw' l (i + 1) := by
  unfold rw'
  rw [List.getD_eq_getElem?_getD, List.getD_eq_getElem?_getD, List.getElem?_drop, Nat.add_comm]
theorem roa_drop {H : Hp} {xs : List V} {rs : List (List Int)} (h : RoA H xs rs) : RoA H (xs.drop 1) (rs.drop 1) := ⟨by rw [List.length_drop, List.length_drop, h.1], fun i v e => by
  rw [List.getElem?_drop] at e ⊢
  exact h.2 _ v e⟩
theorem scPDer : FnScope ["poly", "k", "row"] ["poly"] (defScope sPDer) := ⟨rfl, rfl, rfl, by decide +kernel, rfl, by decide +kernel, by decide +kernel⟩
theorem ok_pder (D : Def K mg "poly_derived" sPDer ["poly"]) (nb : Nb mg) (ne : mg "enumerate" = none) (c1 : Cal P w K mg base "row_scaled" 1 ["row", "whole"] spScR) : Cal P w K mg base "poly_derived" 2 ["poly"] spDerP := by
  refine D.ok scPDer (fun vs H Q E h => ?_) (fun f cdv A out s H vs Q E hr h => ?_)
  · obtain ⟨u, p, b, rfl, _⟩ := h; rfl
  obtain ⟨u, p, b, rfl, hu, okp, bp, q⟩ := h
  refine ⟨_, pss_one (ps_ret (pe_callTy (T := "tuple") call_tuple_of (by rfl) nb.tup (by decide +kernel) (pa_cons (pe_slice sl_list
      (pe_lc (own := [("k", 1), ("row", 2)]) (g := gTup K 2 (gCons (gName 1) (gCons (gName 2) gNil))) (tt := tYes) rfl scPDer.nd (pi_enumT (by rfl) ne (pv 0)) (blkOk_by (N := ["poly", "k", "row"]) (sc := defScope sPDer) (by decide +kernel))
        (fun _ _ _ _ _ => pg_tup rfl (pgs_cons (pg_name (i := 1) scPDer.nd rfl (Or.inl rfl)) (pgs_cons (pg_name (i := 2) scPDer.nd rfl (Or.inl rfl)) pgs_nil))) (fun _ _ _ _ _ => pts_nil) (fun _ _ _ _ _ => pe_cal c1 hr (by decide) (by rfl) (pa_cons (pv 2) (pa_cons (pv 1) pa_nil))))
      (po_some pe_int) po_none) pa_nil))), ?_⟩
  walk_at "rd"
  obtain ⟨pu, xs, rfl, eu, hx⟩ := hu
  have lx := hx.1
  have lp := bp.1
  refine ⟨.ref pu, rfl, pu, xs, rfl, SqT.of eu, fun L nL => lc_enumT (xs := xs) (fun m H' => Same H H' ∧ ∃ (ys : List V) (l : List (List Int)), H' L = some (.lst ys) ∧ RoA H' ys l ∧ l.length = m ∧ (∀ r ∈ l, okR r) ∧ ∀ i, i < m → ∀ j, co l i j = (i : Int) * co p i j) ?_ ?_ ?_ ?_⟩
  · exact ⟨same_new nL, [], [], upd_same, RoA.nil _, rfl, fun r hr => (by cases hr), fun i hi => (by omega)⟩
  · rintro i H' hi ⟨s', _⟩
    exact SqT.of (s' _ _ eu)
  · rintro i x t H' hx2 ⟨s', ys, l, el, rl, ll, okl, cl⟩ nt
    obtain ⟨r, hr2, rr⟩ := (hx.kt (Kt.of s')).2 i x hx2
    have ip := (List.getElem?_eq_some_iff.mp hr2).1
    have gr : rw' p i = r := by rw [rw_some ip]; exact (List.getElem?_eq_some_iff.mp hr2).2
    have sp := same_new (o := .tup [.int (i : Nat), x]) nt
    have s2 := s'.trans sp
    have el2 := sp _ _ el
    have rl2 := rl.kt (Kt.of sp)
    have rr2 := rr.kt (Kt.of sp)
    refine ⟨t, _, rfl, SqT.of upd_same, rfl, _, _, rfl, _, _, rfl, rfl, ?_⟩
    generalize upd H' t (.tup [.int (i : Nat), x]) = H2 at s2 el2 rl2 rr2 ⊢
    refine ⟨rfl, ?_⟩
    refine ⟨x, rfl, .int (i : Nat), rfl, x, r, i, rfl, rr2, okp.1 r (List.mem_of_getElem? hr2), by have := (bp.2 r (List.mem_of_getElem? hr2)).1; omega, by omega, fun z d H3 s3 rz okd cd => ?_⟩
    have el3 := s3 _ _ el2
    have lys := rl2.1
    refine ⟨ys, el3, lt_line (by omega), same_upd (s2.trans s3) nL, ys ++ [z], l ++ [d], upd_same, ((rl2.kt (Kt.of s3)).snoc rz).kt (kt_upd el3), by simp [ll], fun r' hr' => ?_, fun k hk j => ?_⟩
    · rcases List.mem_append.mp hr' with h | h
      · exact okl r' h
      · rw [List.mem_singleton.mp h]; exact okd
    · rcases Nat.lt_or_eq_of_le (Nat.le_of_lt_succ hk) with c | c
      · rw [← cl k c j]
        unfold co rw'
        rw [List.getD_eq_getElem?_getD, List.getD_eq_getElem?_getD, List.getElem?_append_left (by omega)]
      · subst c
        have e : rw' (l ++ [d]) k = d := by
          unfold rw'
          rw [List.getD_eq_getElem?_getD, List.getElem?_append_right (by omega), ll, Nat.sub_self]
          rfl
        rw [co_rw, e, cd, co_rw p, gr]
  · rintro H' ⟨s', ys, l, el, rl, ll, okl, cl⟩
    have ct : ∀ i j, co (l.drop 1) i j = ((i + 1 : Nat) : Int) * co p (i + 1) j := fun i j => by
      rw [co_rw, drop_rw, ← co_rw]
      rcases Nat.lt_or_ge (i + 1) xs.length with c | c
      · exact cl _ c j
      · rw [co_none (show l.length ≤ i + 1 by omega), co_none (show p.length ≤ i + 1 by omega), Int.mul_zero]
    have okt : okP (l.drop 1) := by
      refine ⟨fun r hr => okl r (List.mem_of_mem_drop hr), fun r hr e => ?_⟩
      subst e
      have ne1 : l.drop 1 ≠ [] := fun z => by rw [z] at hr; simp at hr
      have l1 : 0 < (l.drop 1).length := List.length_pos_iff.mpr ne1
      rw [List.length_drop] at l1
      have pn : p ≠ [] := fun z => by
        rw [z] at lx
        rw [ll, lx] at l1
        simp at l1
      obtain ⟨ok1, ne2⟩ := lead_row okp pn
      rw [List.getLast?_eq_getElem?] at hr
      have e1 : rw' (l.drop 1) ((l.drop 1).length - 1) = [] := by
        unfold rw'
        rw [List.getD_eq_getElem?_getD, hr]
        rfl
      have e2 := ct ((l.drop 1).length - 1) ((rw' p (p.length - 1)).length - 1)
      rw [co_rw, e1, List.length_drop, show l.length - 1 - 1 + 1 = p.length - 1 from by omega] at e2
      have e3 := okR_last ok1 ne2
      exact Int.mul_ne_zero (by omega) e3 e2.symm
    have cut : L2.cutV ys (some (1 : Int)) none = ys.drop 1 := by
      unfold L2.cutV
      rw [show (some (1 : Int)) = some ((1 : Nat) : Int) from rfl, HT.sIx_nat, HT.sIx_none]
      rcases Nat.eq_zero_or_pos ys.length with c | c
      · have : ys = [] := List.eq_nil_of_length_eq_zero c
        subst this
        rfl
      · rw [Nat.min_eq_left (by omega), List.take_of_length_le (by rw [List.length_drop]; omega)]
    refine ⟨1, rfl, L, ys, rfl, SqL.of el, fun c1' nc => ⟨c1', _, rfl, .inl ⟨SqL.of upd_same, fun t nt => ?_⟩⟩⟩
    have sN := (same_new (o := .lst (L2.cutV ys (some (1 : Int)) none)) nc).trans (same_new (o := .tup (L2.cutV ys (some (1 : Int)) none)) nt)
    refine q _ (l.drop 1) _ (s'.trans sN) ⟨t, _, rfl, upd_same, ?_⟩ okt ct
    rw [cut] at sN ⊢
    exact (roa_drop rl).kt (Kt.of sN)
end
end K27

set_option Elab.async false
set_option linter.all false
set_option maxRecDepth 100000
set_option maxHeartbeats 8000000
local macro_rules | `(tactic| walk_at "rd") => `(tactic| dsimp only [Evl.tCut, L2.tSeq, L2.tNext, L2.tRet, L2.tRetN, L2.tAsg, L2.gName, L2.tIfS, L2.tDrop, L2.tCons, L2.tNil, L2.tC, L2.tVar, L2.tCB, L2.tAndV, L2.tOrV, L2.tNotV, L2.tB, L2.tTest, L2.tOp, L2.tUn, L2.tNot, L2.tAnd, L2.tOr, L2.tIf, L2.tCall, L2.tTup, L2.tLst, L2.tNotT, L2.tYes, L2.gTup, L2.gCons, L2.gNil, L2.gSub, L2.tBM0, L2.tBM, L2.tWhile, L2.tFor, L2.iRng1, L2.iRng2, L2.tAugS, Tw.iEnumT, L2.tCKw, L2.tAug, L2.ipI, RT.iRevA, L2.iRevR, L2.tPar, L2.tPar3, L2.tSl, L2.tNoPart, L2.tPart, Tw.tRevT, L2.rAdd, L2.rSub, L2.tBits])
namespace K27
open PySem PySem.Spec PyProof.Rows L2 Tw
/-! a full rest, a head of one's own -/
def spFRest : Sp := fun vs H Q _ => ∃ (u v : V) (row bb : List Int) (A : Nat), vs = [u, v] ∧ Ro H u row ∧ Ro H v bb ∧ 1 ≤ bb.length ∧ bb.length ≤ row.length ∧ row.length ≤ 100 ∧ WdA A row ∧ WdA A bb ∧ A + (row.length - bb.length + 1) * (A + 1) + A ≤ 900000 ∧ ∀ z H', Same H H' → Ro H' z (fr row bb) → Q z H'
def spOwnH : Sp := fun vs H Q _ => ∃ (h s : Int) (n B : Nat), vs = [.int h, .int s, .int (n : Int)] ∧ Wd B h ∧ s ≠ 0 ∧ n ≤ 1000 ∧ (n + 2) * B + 10 ≤ 999000 ∧ ∀ H', Same H H' → Q (.int (oh h s n)) H'
theorem for_down {n : Nat} {B : (L2.St → Hp → Prop) → V → L2.St → Hp → Prop} {nx : L2.St → Hp → Prop} {σ : L2.St} {H : Hp} (Pv : Nat → L2.St → Hp → Prop) (h0 : Pv n σ H)
    (hs : ∀ k σ H, k < n → Pv (k + 1) σ H → B (Pv k) (.int (k : Int)) σ H) (hd : ∀ σ H, Pv 0 σ H → nx σ H) :
    ∃ W : Nat → Nat → L2.St → Hp → Prop, (∃ m, W 0 m σ H) ∧ ∀ i m σ H, W i m σ H →
      ((Itc ((0 : Int) + ((((n : Int) - 0).toNat : Nat) : Int) - 1) (-1) ((n : Int) - 0).toNat).stop i H ∧ nx σ H) ∨ ((Itc ((0 : Int) + ((((n : Int) - 0).toNat : Nat) : Int) - 1) (-1) ((n : Int) - 0).toNat).go i H ∧ ∃ N : L2.St → Hp → Prop, (∀ σ' H', N σ' H' → ∃ m', m' < m ∧ W (i + 1) m' σ' H') ∧ ∀ x H', (Itc ((0 : Int) + ((((n : Int) - 0).toNat : Nat) : Int) - 1) (-1) ((n : Int) - 0).toNat).yld i H x H' → B N x σ H') := by
  have e : ((n : Int) - 0).toNat = n := by omega
  rw [e]
  refine ⟨fun i m σ H => m = n - i ∧ i ≤ n ∧ Pv (n - i) σ H, ⟨n, by simp, Nat.zero_le _, h0⟩, ?_⟩
  rintro i m σ H ⟨rfl, hi, p⟩
  by_cases hlt : i < n
  · refine .inr ⟨hlt, Pv (n - (i + 1)), fun σ' H' p' => ⟨n - (i + 1), by omega, rfl, hlt, p'⟩, fun x H' y => ?_⟩
    obtain ⟨e, y⟩ := y
    subst e y
    rw [show (0 : Int) + (n : Int) - 1 + ((i : Nat) : Int) * (-1) = ((n - (i + 1) : Nat) : Int) by omega]
    rw [show n - i = n - (i + 1) + 1 by omega] at p
    exact hs _ σ _ (by omega) p
  · have e : i = n := by omega
    subst e
    rw [Nat.sub_self] at p
    exact .inl ⟨Nat.le_refl _, hd σ H p⟩
def rGetL (K : PySem.W.Frag) : V → V → Hp → VK → Prop := fun o i H Q => ∃ (p : Addr) (xs : List V) (j : Nat) (x : V), o = .ref p ∧ i = .int (j : Int) ∧ SqL K H p xs ∧ xs[j]? = some x ∧ Q x H
section
variable {X : Cx}
theorem get_l : PGet X (rGetL X.K) := by
  intro pins s σ H o i ov iv Q I ro ri h
  obtain ⟨p, xs, j, x, rfl, rfl, hq, hx, q⟩ := h
  cases ro
  obtain ⟨t, rfl⟩ := ri
  obtain ⟨its, r, pl, hz⟩ := I.list hq
  obtain ⟨w, ew, rw'⟩ := r.get hx
  have hl := r.length
  have hj : j < its.length := (List.getElem?_eq_some_iff.mp ew).1
  have hn := line63
  exact wpAny_getItem_list (x := w) pl.isList (by omega) (by omega) (by rw [Int.toNat_natCast]; simpa using ew) ⟨x, H, I, rw', q⟩
end
section
variable {P : Program} {w : World} {K : PySem.W.Frag} {mg : Str → Option Value} {base : Heap}
theorem at_last {bb : List Int} (h : 1 ≤ bb.length) : atI (bb.map V.int) (-1) = some (.int (hd bb)) := by
  have e : bb[bb.length - 1]? = some (hd bb) := by rw [List.getElem?_eq_getElem (by omega)]; unfold hd; rw [g_some (by omega)]
  have e1 : ixN bb.length (-1) = some (bb.length - 1) := by
    unfold ixN
    rw [if_neg (by decide), if_pos (by omega)]
    congr 1
    omega
  unfold atI
  rw [List.length_map, e1]
  show (bb.map V.int)[bb.length - 1]? = _
  rw [List.getElem?_map, e]
  rfl
theorem g_take (bs : List Int) (j m : Nat) : g (bs.take j) m = if m < j then g bs m else 0 := by
  unfold g
  rw [List.getD_eq_getElem?_getD, List.getD_eq_getElem?_getD, List.getElem?_take]
  split <;> rfl
theorem subAt_step {k j : Nat} {t : Int} {bs r : List Int} (hj : j < bs.length) (l : k + bs.length ≤ r.length) : (subAt k t (bs.take j) r).set (k + j) (g (subAt k t (bs.take j) r) (k + j) - t * g bs j) = subAt k t (bs.take (j + 1)) r := by
  have l1 : k + (bs.take j).length ≤ r.length := by rw [List.length_take]; omega
  have l2 : k + (bs.take (j + 1)).length ≤ r.length := by rw [List.length_take]; omega
  refine row_eq (by rw [List.length_set, subAt_len _ _ _ _ l1, subAt_len _ _ _ _ l2]) fun i => ?_
  rw [g_set (by rw [subAt_len _ _ _ _ l1]; omega), subAt_g _ _ _ _ l1, subAt_g _ _ _ _ l1, subAt_g _ _ _ _ l2, g_take, g_take, g_take]
  by_cases c : i = k + j
  · subst c
    rw [if_pos rfl, if_pos (show k ≤ k + j by omega), if_pos (show k ≤ k + j by omega), if_neg (show ¬ k + j - k < j by omega), if_pos (show k + j - k < j + 1 by omega), show k + j - k = j by omega]
    omega
  · rw [if_neg c]
    by_cases d : k ≤ i
    · rw [if_pos d, if_pos d]
      by_cases e : i - k < j
      · rw [if_pos e, if_pos (by omega)]
      · rw [if_neg e, if_neg (by omega)]
    · rw [if_neg d, if_neg d]
theorem subAt_zero {k : Nat} {bs r : List Int} (l : k + bs.length ≤ r.length) : subAt k 0 bs r = r :=
  row_eq (subAt_len _ _ _ _ l) fun i => by rw [subAt_g _ _ _ _ l]; split <;> simp
theorem subAt_nil {k : Nat} {t : Int} {r : List Int} (l : k ≤ r.length) : subAt k t [] r = r :=
  row_eq (subAt_len _ _ _ _ (by simpa using l)) fun i => by rw [subAt_g _ _ _ _ (by simpa using l)]; split <;> simp
theorem ixN_nat {n j : Nat} (h : j < n) : ixN n (j : Int) = some j := by
  unfold ixN
  rw [if_pos (by omega), if_pos (by omega)]
  rfl
theorem at_g {bb : List Int} {j : Nat} (h : j < bb.length) : (bb.map V.int)[j]? = some (.int (g bb j)) := by
  rw [List.getElem?_map, List.getElem?_eq_getElem h, g_some h]; rfl
theorem scOwnH : FnScope ["head", "scale", "steps", "found", "k"] ["head", "scale", "steps"] (defScope sOwnH) := ⟨rfl, rfl, rfl, by decide +kernel, rfl, by decide +kernel, by decide +kernel⟩
theorem ok_ownH (D : Def K mg "own_head" sOwnH ["head", "scale", "steps"]) (nb : Nb mg) (hN : base.NoSeer) (ht : P.given.tree = none) : Cal P w K mg base "own_head" 33 ["head", "scale", "steps"] spOwnH := by
  refine D.ok scOwnH (fun vs H Q E h => ?_) (fun f cdv A out s H vs Q E hr h => ?_)
  · obtain ⟨h, s, n, B, rfl, _⟩ := h; rfl
  obtain ⟨h, sc, n, B, rfl, hB, hs, n1, nB, q⟩ := h
  refine ⟨_, pss_cons (ps_set (i := 3) scOwnH.nd rfl (Or.inl rfl) (pv 0))
    (pss_cons (ps_for PassesOwn.never rfl (pi_range1 (by rfl) nb.rng (pa_cons (pv 2) pa_nil)) (pg_name (i := 4) scOwnH.nd rfl (Or.inl rfl))
      (pss_cons (ps_set (i := 3) scOwnH.nd rfl (Or.inl rfl) (pe_op (op_fdivP (se_mk hN ht rfl ⟨rfl, rfl, rfl, rfl⟩) hr (by omega)) (pe_op op_mulW (pv 0) (pv 3)) (pv 1)))
    (pss_one (ps_if (pt_cmpR op_eq (pe_op op_mod (pv 4) pe_int) pe_int (nomark _))
      (pss_one (ps_set (i := 3) scOwnH.nd rfl (Or.inl rfl) (pe_un un_neg (pv 3))))
      (pss_nil)))))
    (pss_one (ps_ret (pv 3)))), ?_⟩
  walk_at "rd"
  refine ⟨_, rfl, _, rfl, n, rfl, by omega, by omega, for_rng (lo := 0) (n := n) (fun i σ H' => ∃ x4, σ = [some (.int h), some (.int sc), some (.int (n : Int)), some (.int (oh h sc i)), x4] ∧ H' = H) ⟨none, rfl, rfl⟩ ?_ ?_⟩
  · rintro i σ H1 hi ⟨x4, rfl, rfl⟩
    rw [show (0 : Int) + (i : Int) = (i : Int) by omega]
    have mi := Nat.mul_le_mul_right B (show i + 2 ≤ n + 2 by omega)
    have ei : (i + 2) * B = B + (i + 1) * B := by rw [Nat.add_mul, Nat.add_mul]; omega
    refine ⟨_, rfl, _, rfl, _, _, rfl, rfl, hB.cm (oh_wd hB hs i) (by omega), _, rfl, _, _, rfl, rfl, hs, _, rfl, _, _, rfl, rfl, (by show (0 : Int) < 2; decide), rfl, _, rfl, ite2 (fun c => ?_) (fun c => ?_)⟩
    · have c := of_decide_eq_true c
      injection c with c
      have c2 : i % 2 = 0 := by omega
      refine ⟨_, rfl, _, rfl, some (.int (i : Int)), ?_, rfl⟩
      rw [oh, if_pos c2]
      rfl
    · have c2 : ¬ i % 2 = 0 := fun z => c (decide_eq_true (by show V.int ((i : Int) % 2) = V.int 0; rw [show (i : Int) % 2 = 0 by omega]))
      refine ⟨some (.int (i : Int)), ?_, rfl⟩
      rw [oh, if_neg c2]
      rfl
  · rintro σ H1 ⟨x4, rfl, rfl⟩
    exact ⟨_, rfl, q _ (Same.refl _)⟩
theorem scFRest : FnScope ["row", "by", "rest", "head", "size", "at", "top", "number", "k"] ["row", "by"] (defScope sFRest) := ⟨rfl, rfl, rfl, by decide +kernel, rfl, by decide +kernel, by decide +kernel⟩
theorem ok_fRest (D : Def K mg "full_rest" sFRest ["row", "by"]) (nb : Nb mg) (ct : Cal P w K mg base "trimmed" 1 ["numbers"] spTrimI) : Cal P w K mg base "full_rest" 2 ["row", "by"] spFRest := by
  refine D.ok scFRest (fun vs H Q E h => ?_) (fun f cdv A out s H vs Q E hr h => ?_)
  · obtain ⟨u, v, row, bb, A, rfl, _⟩ := h; rfl
  obtain ⟨u, v, row, bb, W, rfl, ⟨pu, rfl, eu⟩, ⟨pw, rfl, ew⟩, lb, lbr, lr, wr, wb, hW, q⟩ := h
  refine ⟨_, Evl.pss_cut (ps_set (i := 2) scFRest.nd rfl (Or.inl rfl) (pe_callTy (T := "list") call_list_of (by rfl) nb.lst (by decide +kernel) (pa_cons (pv 0) pa_nil)))
    (Evl.pss_cut (ps_set (i := 3) scFRest.nd rfl (Or.inr rfl) (pe_ix (r := rIxT K) ix_tup (pv 1) (pe_un un_neg pe_int) (fun _ _ => rfl)))
    (Evl.pss_cut (ps_set (i := 4) scFRest.nd rfl (Or.inl rfl) (pe_callB (id := "len") (r := rLn K) call_len_seq (by rfl) nb.len PySem.boot_len (pa_cons (pv 1) pa_nil)))
    (Evl.pss_cut (ps_for PassesOwn.never rfl (pi_revR (by rfl) nb.rev (prg_1 (by rfl) nb.rng (pe_op op_add (pe_op op_sub (pe_callB (id := "len") (r := rLn K) call_len_seq (by rfl) nb.len PySem.boot_len (pa_cons (pv 0) pa_nil)) (pv 4)) pe_int))) (pg_name (i := 5) scFRest.nd rfl (Or.inl rfl))
      (Evl.pss_cut (ps_set (i := 6) scFRest.nd rfl (Or.inl rfl) (pe_bm0 PySem.F.plainAttrs_list PySem.F.slot_list_pop PySem.F.type_list_pop mt_pop (pv 2)))
    (Evl.pss_cut (ps_setLc (i := 2) (own := [("number", 7)]) (g := gName 7) (tt := tYes) rfl scFRest.nd rfl rfl (by rfl) (pi_list (pv 2)) (blkOk_by (N := ["row", "by", "rest", "head", "size", "at", "top", "number", "k"]) (sc := defScope sFRest) (by decide +kernel)) (fun _ _ _ _ _ => pg_name (i := 7) scFRest.nd rfl (Or.inl rfl)) (fun _ _ _ _ _ => pts_nil) (fun _ _ _ _ _ => (pe_op op_mulW (pv 3) (pv 7))))
    (pss_one (ps_if (pt_truth (pv 6) (by intro _; rfl))
      (pss_one (ps_for PassesOwn.never rfl (pi_range1 (by rfl) nb.rng (pa_cons (pe_op op_sub (pv 4) pe_int) pa_nil)) (pg_name (i := 8) scFRest.nd rfl (Or.inl rfl))
      (pss_one (ps_augS (pv 2) (pe_op op_add (pv 5) (pv 8)) get_l (pe_op op_mulW (pv 6) (pe_ix (r := rIxT K) ix_tup (pv 1) (pv 8) (fun _ _ => rfl))) ip_sub set_list))))
      (pss_nil))))))
    (pss_one (ps_ret (pe_cal ct hr (by omega) (by rfl) (pa_cons (pv 2) pa_nil))))))), ?_⟩
  walk_at "rd"
  refine ⟨fun σ H' => ∃ L, σ = [some (.ref pu), some (.ref pw), some (.ref L), none, none, none, none, none, none] ∧ Same H H' ∧ H L = none ∧ H' L = some (.lst (row.map V.int)), ?_, ?_⟩
  · refine ⟨_, rfl, pu, _, rfl, .inr (SqT.of eu), fun L nL => ⟨L, rfl, same_new nL, nL, upd_same⟩⟩
  rintro σ1 H1 ⟨L, rfl, s1, nL, eL⟩
  refine ⟨fun σ H' => σ = [some (.ref pu), some (.ref pw), some (.ref L), some (.int (hd bb)), none, none, none, none, none] ∧ H' = H1, ?_, ?_⟩
  · exact ⟨_, rfl, _, rfl, pw, _, _, _, rfl, rfl, SqT.of (s1 _ _ ew), at_last lb, rfl, rfl⟩
  rintro σ2 H2 ⟨rfl, rfl⟩
  refine ⟨fun σ H' => σ = [some (.ref pu), some (.ref pw), some (.ref L), some (.int (hd bb)), some (.int (bb.length : Int)), none, none, none, none] ∧ H' = H2, ?_, ?_⟩
  · refine ⟨_, rfl, pw, _, rfl, .inr (SqT.of (s1 _ _ ew)), ?_, rfl⟩
    rw [List.length_map]
    rfl
  rintro σ3 H3 ⟨rfl, rfl⟩
  have eN : (row.length : Int) - (bb.length : Int) + 1 = ((row.length - bb.length + 1 : Nat) : Int) := by omega
  refine ⟨fun σ H' => ∃ L r x5 x6 x7 x8, σ = [some (.ref pu), some (.ref pw), some (.ref L), some (.int (hd bb)), some (.int (bb.length : Int)), x5, x6, x7, x8] ∧ Same H H' ∧ H L = none ∧ H' L = some (.lst (r.map V.int)) ∧ frGo bb (row.length - bb.length + 1) row = r, ?_, ?_⟩
  · refine ⟨_, rfl, pu, _, rfl, .inr (SqT.of (s1 _ _ eu)), _, rfl, _, _, rfl, rfl, _, _, rfl, rfl, ?_⟩
    rw [List.length_map]
    dsimp only
    rw [eN]
    refine ⟨_, rfl, by omega, by omega, by omega, by omega, for_down (n := row.length - bb.length + 1) (fun k σ H' => ∃ L r x5 x6 x7 x8, σ = [some (.ref pu), some (.ref pw), some (.ref L), some (.int (hd bb)), some (.int (bb.length : Int)), x5, x6, x7, x8] ∧ Same H H' ∧ H L = none ∧ H' L = some (.lst (r.map V.int)) ∧ frGo bb (row.length - bb.length + 1) row = frGo bb k r ∧ r.length + 1 = bb.length + k ∧ k ≤ row.length - bb.length + 1 ∧ WdA (W + (row.length - bb.length + 1 - k) * (W + 1)) r) ?_ ?_ ?_⟩
    · exact ⟨L, row, _, _, _, _, rfl, s1, nL, eL, rfl, by omega, Nat.le_refl _, wr.up (by omega)⟩
    · rintro k σ H1 hk ⟨L, r, x5, x6, x7, x8, rfl, s1, nL, eL, ef, lr', hk', wr'⟩
      have n1 : H1 L ≠ none := by rw [eL]; simp
      have hm := Nat.mul_le_mul_right (W + 1) (show row.length - bb.length + 1 - (k + 1) ≤ row.length - bb.length + 1 by omega)
      have hk1 : row.length - bb.length + 1 - k = row.length - bb.length + 1 - (k + 1) + 1 := by omega
      have hA : W + (row.length - bb.length + 1 - k) * (W + 1) = W + (row.length - bb.length + 1 - (k + 1)) * (W + 1) + W + 1 := by rw [hk1, Nat.add_mul]; omega
      rw [hA]
      have hAW : W + (row.length - bb.length + 1 - (k + 1)) * (W + 1) + W ≤ 900000 := by omega
      generalize W + (row.length - bb.length + 1 - (k + 1)) * (W + 1) = A at wr' hAW ⊢
      refine ⟨fun σ H' => σ = [some (.ref pu), some (.ref pw), some (.ref L), some (.int (hd bb)), some (.int (bb.length : Int)), some (.int (k : Int)), some (.int (hd r)), x7, x8] ∧ Same H H' ∧ H' L = some (.lst (r.dropLast.map V.int)), ?_, ?_⟩
      · refine ⟨_, rfl, .inl ⟨rfl, _, SqL.of eL⟩, L, _, .int (hd r), rfl, rfl, eL, ?_, rfl, fun b o e => ?_, ?_⟩
        · rw [List.length_map, at_g (by omega)]; rfl
        · rw [upd_ne (ne_of_none e nL)]; exact s1 _ _ e
        · rw [upd_same, List.map_dropLast]
      rintro σ2 H2 ⟨rfl, s2, eL2⟩
      refine ⟨fun σ H' => ∃ L', σ = [some (.ref pu), some (.ref pw), some (.ref L'), some (.int (hd bb)), some (.int (bb.length : Int)), some (.int (k : Int)), some (.int (hd r)), x7, x8] ∧ Same H H' ∧ H L' = none ∧ H' L' = some (.lst ((r.dropLast.map fun c => hd bb * c).map V.int)), ?_, ?_⟩
      · refine lc_relL (S := fun _ v k => v = V.int k) (R := fun _ v k => v = V.int k) (g := fun x => hd bb * x) (rs := r.dropLast) (p := L) (xs := r.dropLast.map V.int) (stable_eq _) (stable_eq _) rfl eL2 (RelA.of_map _) (by rw [List.length_dropLast]; omega) (fun x => wipeJ _ _ _) (fun x d H1 hd' s1 rx Z hZ => ?_) fun D ys H1 s1 nD eD ry => ?_
        · subst rx
          exact ⟨_, rfl, _, rfl, _, _, rfl, rfl, wb.hd.cm (wr' d (List.dropLast_subset _ hd')) (by omega), hZ _ _ (Same.refl _) rfl⟩
        · have ey := RelA.eq_map ry
          exact ⟨D, rfl, s2.trans s1, s2.free nD, by rw [eD, ey]⟩
      rintro σ3 H3 ⟨L', rfl, s3, nL', eL'⟩
      have wr1 : WdA (W + A) (r.dropLast.map fun c => hd bb * c) := WdA.scl wb.hd fun c hc => wr' c (List.dropLast_subset _ hc)
      have lr1 : (r.dropLast.map fun c => hd bb * c).length + 1 = r.length := by rw [List.length_map, List.length_dropLast]; omega
      have wr2 := subAt_wd (n := k) (bs := bb.dropLast) (wr'.hd) (fun c hc => wb c (List.dropLast_subset _ hc)) (wr1.up (by omega)) (by rw [List.length_dropLast]; omega)
      have ef2 : frGo bb (row.length - bb.length + 1) row = frGo bb k (subAt k (hd r) bb.dropLast (r.dropLast.map fun c => hd bb * c)) := by rw [ef, frGo]
      have lr2 := subAt_len k (hd r) bb.dropLast (r.dropLast.map fun c => hd bb * c) (by rw [List.length_dropLast]; omega)
      generalize (r.dropLast.map fun c => hd bb * c) = r1 at *
      have wt := wr'.hd
      generalize hd r = tt at *
      refine ⟨_, rfl, _, rfl, ?_⟩
      by_cases c : tt = 0
      · subst c
        rw [subAt_zero (by rw [List.length_dropLast]; omega)] at wr2 ef2
        exact iteF ⟨L', r1, _, _, _, _, rfl, s3, nL', eL', ef2, by omega, by omega, wr2⟩
      rw [show (tt != 0) = true from bne_iff_ne.mpr c]
      refine iteT ⟨_, rfl, _, _, rfl, rfl, _, rfl, by omega, by omega, ?_⟩
      have eJ : ((bb.length : Int) - 1).toNat = bb.length - 1 := by omega
      rw [eJ]
      refine for_rng (lo := 0) (n := bb.length - 1) (fun j σ H' => ∃ x8, σ = [some (.ref pu), some (.ref pw), some (.ref L'), some (.int (hd bb)), some (.int (bb.length : Int)), some (.int (k : Int)), some (.int tt), x7, x8] ∧ Same H H' ∧ H' L' = some (.lst ((subAt k tt (bb.dropLast.take j) r1).map V.int))) ⟨_, rfl, s3, by rw [List.take_zero, subAt_nil (by omega)]; exact eL'⟩ ?_ ?_
      · rintro j σ H1 hj ⟨x8, rfl, s4, e4⟩
        rw [show (0 : Int) + (j : Int) = (j : Int) by omega]
        have lt : (subAt k tt (bb.dropLast.take j) r1).length = r1.length := subAt_len _ _ _ _ (by rw [List.length_take, List.length_dropLast]; omega)
        have gd : g bb.dropLast j = g bb j := by rw [List.dropLast_eq_take, g_take, if_pos (by omega)]
        refine ⟨_, rfl, _, rfl, _, rfl, _, _, rfl, rfl, L', _, k + j, _, rfl, ?_, SqL.of e4, at_g (by rw [lt]; omega), _, rfl, _, rfl, _, rfl, pw, _, j, _, rfl, rfl, SqT.of (s4 _ _ ew), atI_nat (at_g (by omega)), _, _, rfl, rfl, wt.cm (wb.g j) (by omega), _, _, rfl, rfl, L', _, _, k + j, rfl, rfl, e4, ?_, _, rfl, ?_, ?_⟩
        · show V.int ((k : Int) + (j : Int)) = _; rw [show (k : Int) + (j : Int) = ((k + j : Nat) : Int) by omega]
        · rw [show (k : Int) + (j : Int) = ((k + j : Nat) : Int) by omega, List.length_map, lt]
          exact ixN_nat (by omega)
        · intro b o e; rw [upd_ne (ne_of_none e nL')]; exact s4 _ _ e
        · rw [upd_same, ← subAt_step (by rw [List.length_dropLast]; omega) (by rw [List.length_dropLast]; omega), gd, List.map_set]
      · rintro σ H1 ⟨x8, rfl, s4, e4⟩
        rw [List.take_of_length_le (by rw [List.length_dropLast]; omega)] at e4
        exact ⟨L', _, _, _, _, _, rfl, s4, nL', e4, ef2, by omega, by omega, wr2⟩
    · rintro σ H1 ⟨L, r, x5, x6, x7, x8, rfl, s1, nL, eL, ef, lr', _, wr'⟩
      exact ⟨L, r, x5, x6, x7, x8, rfl, s1, nL, eL, ef⟩
  rintro σ4 H4 ⟨L, r, x5, x6, x7, x8, rfl, s1, nL, eL, ef⟩
  refine ⟨_, rfl, L, r, rfl, eL, fun v H5 s5 rv => q v H5 (s1.trans s5) ?_⟩
  unfold fr
  rw [ef]
  exact rv
end
end K27

set_option Elab.async false
set_option linter.all false
set_option maxRecDepth 100000
set_option maxHeartbeats 8000000
local macro_rules | `(tactic| walk_at "rd") => `(tactic| dsimp only [Evl.tCut, L2.tSeq, L2.tNext, L2.tRet, L2.tRetN, L2.tAsg, L2.gName, L2.tIfS, L2.tDrop, L2.tCons, L2.tNil, L2.tC, L2.tVar, L2.tCB, L2.tAndV, L2.tOrV, L2.tNotV, L2.tB, L2.tTest, L2.tOp, L2.tUn, L2.tNot, L2.tAnd, L2.tOr, L2.tIf, L2.tCall, L2.tTup, L2.tLst, L2.tNotT, L2.tYes, L2.gTup, L2.gCons, L2.gNil, L2.gSub, L2.tBM0, L2.tBM, L2.tWhile, L2.tFor, L2.iRng1, L2.iRng2, L2.tAugS, Tw.iEnumT, L2.tCKw, L2.tAug, L2.ipI, RT.iRevA, L2.iRevR, L2.tPar, L2.tPar3, L2.tSl, L2.tNoPart, L2.tPart, Tw.tRevT, L2.rAdd, L2.rSub, L2.tBits])
namespace K27
open PySem PySem.Spec PyProof.Rows L2 Tw
/-! the chain of rests -/
def spSubres : Sp := fun vs H Q _ => ∃ (u v : V) (one other : List Int) (W : Nat) (fd : List (List Int)), vs = [u, v] ∧ Ro H u one ∧ Ro H v other ∧ 2 ≤ one.length ∧ one.length ≤ 6 ∧ other.length + 1 = one.length ∧ WdA W one ∧ WdA W other ∧ 10 ≤ W ∧ W * 5 ^ (one.length - 2) ≤ 490000 ∧
  srGo 5 (one.length - 1) ((List.replicate (one.length - 1) [] ++ [one]).set (one.length - 2) other) one other 1 1 = some fd ∧ ∀ z H', Same H H' → Po H' z fd → Q z H'
theorem pw5b : ∀ {a : Nat}, 1 ≤ a → a + 1 ≤ 2 * 5 ^ (a - 1)
  | 1, _ => by decide
  | a + 2, _ => by
    have := pw5b (a := a + 1) (by omega)
    rw [show a + 1 - 1 = a by omega] at this
    rw [show a + 2 - 1 = a + 1 by omega, Nat.pow_succ]
    omega
theorem pw5c : ∀ {d : Nat}, 1 ≤ d → 2 * d + 3 ≤ 5 ^ d
  | 1, _ => by decide
  | d + 2, _ => by
    have := pw5c (d := d + 1) (by omega)
    rw [Nat.pow_succ]
    omega
theorem kb1 {d K : Nat} (hd : 1 ≤ d) (h5 : d ≤ 5) (hK : 10 ≤ K) : (2 * d + 2) * K + (d + 1) ≤ 5 ^ d * K := by
  have h := Nat.mul_le_mul_right K (pw5c hd)
  have e : (2 * d + 3) * K = (2 * d + 2) * K + K := by rw [show 2 * d + 3 = (2 * d + 2) + 1 by omega, Nat.add_mul (2 * d + 2)]; omega
  omega
def SubInv (H1 : Hp) (pu pw L : Addr) (fd : List (List Int)) (m : Nat) (σ : L2.St) (H' : Hp) : Prop := ∃ (xs : List V) (at_ : Nat) (p4 p5 : Addr) (upper lower : List Int) (scale lead : Int) (Kb : Nat) (fdl : List (List Int)) (x8 x9 x10 x11 x12 x13 : Option V), σ = [some (.ref pu), some (.ref pw), some (.int (at_ : Int)), some (.ref L), some (.ref p4), some (.ref p5), some (.int scale), some (.int lead), x8, x9, x10, x11, x12, x13] ∧ Same H1 H' ∧ H' L = some (.lst xs) ∧ RoA H' xs fdl ∧ H' p4 = some (.tup (upper.map V.int)) ∧ H' p5 = some (.tup (lower.map V.int)) ∧ srGo m at_ fdl upper lower scale lead = some fd ∧ scale ≠ 0 ∧ lead ≠ 0 ∧ upper.length = at_ + 1 ∧ 1 ≤ at_ ∧ at_ ≤ 5 ∧ fdl.length ≤ 6 ∧ at_ < fdl.length ∧ WdA Kb upper ∧ WdA Kb lower ∧ Wd Kb scale ∧ Wd Kb lead ∧ 10 ≤ Kb ∧ Kb * 5 ^ (at_ - 1) ≤ 490000
section
variable {P : Program} {w : World} {K : PySem.W.Frag} {mg : Str → Option Value} {base : Heap}
theorem scSubres : FnScope ["one", "other", "at", "found", "upper", "lower", "scale", "lead", "low", "head", "own", "number", "over", "rest"] ["one", "other"] (defScope sSubres) := ⟨rfl, rfl, rfl, by decide +kernel, rfl, by decide +kernel, by decide +kernel⟩
theorem ok_subres (D : Def K mg "subresultants" sSubres ["one", "other"]) (nb : Nb mg) (hN : base.NoSeer) (ht : P.given.tree = none) (co : Cal P w K mg base "own_head" 33 ["head", "scale", "steps"] spOwnH) (cp : Cal P w K mg base "power" 1 ["base", "many"] spPower)
    (cf : Cal P w K mg base "full_rest" 2 ["row", "by"] spFRest) : Cal P w K mg base "subresultants" 34 ["one", "other"] spSubres := by
  refine D.ok scSubres (fun vs H Q E h => ?_) (fun f cdv A out s H vs Q E hr h => ?_)
  · obtain ⟨u, v, one, other, W, fd, rfl, _⟩ := h; rfl
  obtain ⟨u, v, one, other, W, fd, rfl, ⟨pu, rfl, eu⟩, ⟨pw, rfl, ew⟩, l2, l6, lo, w1, w2, W10, hW, hgo, q⟩ := h
  refine ⟨_, Evl.pss_cut (ps_set (i := 2) scSubres.nd rfl (Or.inl rfl) (pe_op op_sub (pe_callB (id := "len") (r := rLn K) call_len_seq (by rfl) nb.len PySem.boot_len (pa_cons (pv 0) pa_nil)) pe_int))
    (Evl.pss_cut (ps_set (i := 3) scSubres.nd rfl (Or.inl rfl) (pe_op op_cat (pe_op op_rep (pe_lst (pa_cons (pe_tup pa_nil) pa_nil)) (pv 2)) (pe_lst (pa_cons (pv 0) pa_nil))))
    (Evl.pss_cut (ps_asg (pv 1) (pg_sub (pv 3) (pe_op op_sub (pv 2) pe_int) set_list))
    (Evl.pss_cut (ps_par (i := 4) (j := 5) rfl scSubres.nd rfl rfl (by decide) rfl rfl (pa_cons (pv 0) (pa_cons (pv 1) pa_nil)) rfl)
    (Evl.pss_cut (ps_asg2 pe_int (pg_name (i := 6) scSubres.nd rfl (Or.inl rfl)) (pg_name (i := 7) scSubres.nd rfl (Or.inl rfl)))
    (Evl.pss_cut (ps_while PassesOwn.never (pt_truth (pv 5) (by intro _; rfl))
      (Evl.pss_cut (ps_set (i := 8) scSubres.nd rfl (Or.inl rfl) (pe_op op_sub (pe_callB (id := "len") (r := rLn K) call_len_seq (by rfl) nb.len PySem.boot_len (pa_cons (pv 5) pa_nil)) pe_int))
    (Evl.pss_cut (ps_set (i := 9) scSubres.nd rfl (Or.inr rfl) (pe_ix (r := rIxT K) ix_tup (pv 5) (pe_un un_neg pe_int) (fun _ _ => rfl)))
    (Evl.pss_cut (ps_set (i := 10) scSubres.nd rfl (Or.inr rfl) (pe_cal co hr (by omega) (by rfl) (pa_cons (pv 9) (pa_cons (pv 6) (pa_cons (pe_op op_sub (pe_op op_sub (pv 2) pe_int) (pv 8)) pa_nil)))))
    (Evl.pss_cut (ps_if (pt_cmpR op_lt (pv 8) (pe_op op_sub (pv 2) pe_int) (nomark _))
      (pss_one (ps_asg (pe_callTy (T := "tuple") call_tuple_of (by rfl) nb.tup (by decide +kernel) (pa_cons (pe_lc (own := [("number", 11)]) (g := gName 11) (tt := tYes) rfl scSubres.nd (pi_tup (pv 5)) (blkOk_by (N := ["one", "other", "at", "found", "upper", "lower", "scale", "lead", "low", "head", "own", "number", "over", "rest"]) (sc := defScope sSubres) (by decide +kernel)) (fun _ _ _ _ _ => pg_name (i := 11) scSubres.nd rfl (Or.inl rfl)) (fun _ _ _ _ _ => pts_nil) (fun _ _ _ _ _ => (pe_op (op_fdivP (se_mk hN ht rfl ⟨rfl, rfl, rfl, rfl⟩) hr (by omega)) (pe_op op_mulW (pv 10) (pv 11)) (pv 9)))) pa_nil)) (pg_sub (pv 3) (pv 8) set_list)))
      (pss_nil))
    (Evl.pss_cut (ps_if (pt_cmpR op_eq (pv 8) pe_int (nomark _))
      (pss_one (ps_break))
      (pss_nil))
    (Evl.pss_cut (ps_set (i := 12) scSubres.nd rfl (Or.inr rfl) (pe_op op_mulW (pe_op op_mulW (pe_cal cp hr (by omega) (by rfl) (pa_cons (pv 9) (pa_cons (pe_op op_sub (pv 2) (pv 8)) pa_nil))) (pv 6)) (pv 7)))
    (Evl.pss_cut (ps_set (i := 13) scSubres.nd rfl (Or.inl rfl) (pe_callTy (T := "tuple") call_tuple_of (by rfl) nb.tup (by decide +kernel) (pa_cons (pe_lc (own := [("number", 11)]) (g := gName 11) (tt := tYes) rfl scSubres.nd (pi_tup (pe_cal cf hr (by omega) (by rfl) (pa_cons (pv 4) (pa_cons (pv 5) pa_nil)))) (blkOk_by (N := ["one", "other", "at", "found", "upper", "lower", "scale", "lead", "low", "head", "own", "number", "over", "rest"]) (sc := defScope sSubres) (by decide +kernel)) (fun _ _ _ _ _ => pg_name (i := 11) scSubres.nd rfl (Or.inl rfl)) (fun _ _ _ _ _ => pts_nil) (fun _ _ _ _ _ => (pe_op (op_fdivP (se_mk hN ht rfl ⟨rfl, rfl, rfl, rfl⟩) hr (by omega)) (pe_op op_mulW (pe_un un_neg (pv 10)) (pv 11)) (pv 12)))) pa_nil)))
    (Evl.pss_cut (ps_asg (pv 13) (pg_sub (pv 3) (pe_op op_sub (pv 8) pe_int) set_list))
    (Evl.pss_cut (ps_par3 (i := 4) (j := 5) (l := 2) rfl scSubres.nd rfl rfl rfl (by decide) (by decide) (by decide) rfl rfl rfl (pa_cons (pv 5) (pa_cons (pv 13) (pa_cons (pv 8) pa_nil))) rfl)
    (pss_one (ps_par (i := 6) (j := 7) rfl scSubres.nd rfl rfl (by decide) rfl rfl (pa_cons (pv 10) (pa_cons (pv 9) pa_nil)) rfl))))))))))))
    (pss_one (ps_ret (pe_callTy (T := "tuple") call_tuple_of (by rfl) nb.tup (by decide +kernel) (pa_cons (pv 3) pa_nil))))))))), ?_⟩
  walk_at "rd"
  obtain ⟨n, hn⟩ : ∃ n, one.length = n + 1 := ⟨one.length - 1, by omega⟩
  rw [hn] at hgo hW
  rw [show n + 1 - 1 = n by omega, show n + 1 - 2 = n - 1 by omega] at hgo
  rw [show n + 1 - 2 = n - 1 by omega] at hW
  refine ⟨fun σ H' => σ = [some (.ref pu), some (.ref pw), some (.int (n : Int)), none, none, none, none, none, none, none, none, none, none, none] ∧ H' = H, ?_, ?_⟩
  · refine ⟨_, rfl, pu, _, rfl, .inr (SqT.of eu), _, _, rfl, rfl, ?_, rfl⟩
    rw [List.length_map, hn]
    show [_, _, some (V.int (((n + 1 : Nat) : Int) - 1)), _, _, _, _, _, _, _, _, _, _, _] = _
    rw [show (((n + 1 : Nat) : Int) - 1) = (n : Int) by omega]
  rintro σ1 H1 ⟨rfl, rfl⟩
  refine ⟨fun σ H' => ∃ L xs, σ = [some (.ref pu), some (.ref pw), some (.int (n : Int)), some (.ref L), none, none, none, none, none, none, none, none, none, none] ∧ Same H1 H' ∧ H1 L = none ∧ H' L = some (.lst xs) ∧ RoA H' xs (List.replicate n [] ++ [one]), ?_, ?_⟩
  · refine ⟨sz (by simp), fun p np => ⟨sz (by simp), fun L0 n0 => ⟨_, rfl, ?_⟩⟩⟩
    have s1 := (same_new (o := .tup []) np).trans (same_new (o := .lst [.ref p]) n0)
    have ep : upd (upd H1 p (.tup [])) L0 (.lst [.ref p]) p = some (.tup []) := by rw [upd_ne (ne_of_none upd_same n0)]; exact upd_same
    refine ⟨L0, _, _, rfl, rfl, upd_same, by omega, by omega, sz (by show 1 * _ ≤ _; omega), fun L1 n1 => ⟨_, rfl, sz (by simp), fun L2 n2 => ?_⟩⟩
    rw [show ((n : Int)).toNat = n by omega, flat_one] at n2 ⊢
    have s2 := same_new (o := .lst (List.replicate n (V.ref p))) n1
    have e1 : upd (upd (upd H1 p (.tup [])) L0 (.lst [.ref p])) L1 (.lst (List.replicate n (V.ref p))) L1 = some (.lst (List.replicate n (V.ref p))) := upd_same
    have s02 := s1.trans s2
    have ep2 := s2 _ _ ep
    generalize upd (upd (upd H1 p (.tup [])) L0 (.lst [.ref p])) L1 (.lst (List.replicate n (V.ref p))) = H2 at n2 e1 s02 ep2 ⊢
    have s3 := same_new (o := .lst [.ref pu]) n2
    refine ⟨L1, L2, _, _, rfl, rfl, s3 _ _ e1, upd_same, ?_, fun L3 n3 => ⟨L3, _, rfl, s02.trans (s3.trans (same_new n3)), s02.free (s3.free n3), upd_same, ?_⟩⟩
    · have := sz (n := (List.replicate n (V.ref p)).length + [V.ref pu].length) (by rw [List.length_replicate]; show n + 1 ≤ _; omega)
      exact this
    · have st := s3.trans (same_new (o := .lst (List.replicate n (V.ref p) ++ [.ref pu])) n3)
      have rp : Ro (upd (upd H2 L2 (.lst [.ref pu])) L3 (.lst (List.replicate n (V.ref p) ++ [.ref pu]))) (.ref p) [] := ⟨p, rfl, st _ _ ep2⟩
      have ro : Ro (upd (upd H2 L2 (.lst [.ref pu])) L3 (.lst (List.replicate n (V.ref p) ++ [.ref pu]))) (.ref pu) one := ⟨pu, rfl, (s02.trans st) _ _ eu⟩
      refine RoA.snoc ⟨by rw [List.length_replicate, List.length_replicate], fun i v e => ?_⟩ ro
      rw [List.getElem?_replicate] at e ⊢
      split at e
      · injection e with e
        subst e
        rename_i h
        exact ⟨[], by rw [if_pos h], rp⟩
      · cases e
  rintro σ2 H2 ⟨L, xs, rfl, s2, nL, eL, rL⟩
  refine ⟨fun σ H' => ∃ xs, σ = [some (.ref pu), some (.ref pw), some (.int (n : Int)), some (.ref L), none, none, none, none, none, none, none, none, none, none] ∧ Same H1 H' ∧ H' L = some (.lst xs) ∧ RoA H' xs ((List.replicate n [] ++ [one]).set (n - 1) other), ?_, ?_⟩
  · refine ⟨_, rfl, _, rfl, _, rfl, _, _, rfl, rfl, L, _, _, n - 1, rfl, rfl, eL, ?_, _, rfl, fun b o e => ?_, upd_same, ?_⟩
    · rw [show (n : Int) - 1 = ((n - 1 : Nat) : Int) by omega]
      exact ixN_nat (by rw [rL.1, List.length_append, List.length_replicate]; show n - 1 < n + 1; omega)
    · rw [upd_ne (ne_of_none e nL)]; exact s2 _ _ e
    · exact (rL.set (n - 1) ⟨pw, rfl, s2 _ _ ew⟩).kt (kt_upd eL)
  rintro σ3 H3 ⟨xs, rfl, s3, eL, rL⟩
  refine ⟨fun σ H' => σ = [some (.ref pu), some (.ref pw), some (.int (n : Int)), some (.ref L), some (.ref pu), some (.ref pw), none, none, none, none, none, none, none, none] ∧ H' = H3, ?_, ?_⟩
  · exact ⟨_, rfl, _, rfl, _, _, rfl, rfl, rfl⟩
  rintro σ4 H4 ⟨rfl, rfl⟩
  refine ⟨fun σ H' => σ = [some (.ref pu), some (.ref pw), some (.int (n : Int)), some (.ref L), some (.ref pu), some (.ref pw), some (.int 1), some (.int 1), none, none, none, none, none, none] ∧ H' = H4, ?_, ?_⟩
  · exact ⟨rfl, rfl⟩
  rintro σ5 H5 ⟨rfl, rfl⟩
  refine ⟨fun σ H' => ∃ xs x2 x4 x5 x6 x7 x8 x9 x10 x11 x12 x13, σ = [some (.ref pu), some (.ref pw), x2, some (.ref L), x4, x5, x6, x7, x8, x9, x10, x11, x12, x13] ∧ Same H1 H' ∧ H' L = some (.lst xs) ∧ RoA H' xs fd, ?_, ?_⟩
  · refine ⟨SubInv H1 pu pw L fd, ?_, ?_⟩
    · refine ⟨5, xs, n, pu, pw, one, other, 1, 1, W, _, _, _, _, _, _, _, rfl, s3, eL, rL, s3 _ _ eu, s3 _ _ ew, hgo, by decide, by decide, hn, by omega, by omega, ?_, ?_, w1, w2, ?_, ?_, W10, hW⟩
      · rw [List.length_set, List.length_append, List.length_replicate]; show n + 1 ≤ 6; omega
      · rw [List.length_set, List.length_append, List.length_replicate]; show n < n + 1; omega
      · show 1 < 2 ^ W; exact Nat.one_lt_two_pow (by omega)
      · show 1 < 2 ^ W; exact Nat.one_lt_two_pow (by omega)
    rintro m σ H6 ⟨xs, at_, p4, p5, upper, lower, scale, lead, Kb, fdl, x8, x9, x10, x11, x12, x13, rfl, s6, eL, rL, e4, e5, hg, hs, hl, lu, a1, a5, lf6, lf, wu, wl, ws, wd, K10, hK⟩
    have kt2 : (at_ + 1) * Kb ≤ 980000 := by
      have h1 := Nat.mul_le_mul_right Kb (pw5b a1)
      have h2 : 2 * 5 ^ (at_ - 1) * Kb = 2 * (Kb * 5 ^ (at_ - 1)) := by rw [Nat.mul_assoc, Nat.mul_comm Kb]
      omega
    obtain ⟨m, rfl⟩ : ∃ k, m = k + 1 := by
      cases m with
      | zero => rw [srGo] at hg; cases hg
      | succ k => exact ⟨k, rfl⟩
    rw [srGo] at hg
    refine ⟨_, rfl, _, .inr (.inl ⟨_, SqT.of e5, rfl⟩), ?_⟩
    by_cases cl : lower = []
    · rw [if_pos cl] at hg
      injection hg with hg
      subst hg
      rw [cl]
      exact iteF ⟨xs, _, _, _, _, _, _, _, _, _, _, _, rfl, s6, eL, rL⟩
    rw [if_neg cl] at hg
    by_cases c0 : hd lower = 0 ∨ at_ < lower.length
    · rw [if_pos c0] at hg; cases hg
    rw [if_neg c0] at hg
    have h0 : hd lower ≠ 0 := fun z => c0 (.inl z)
    have hal : lower.length ≤ at_ := by omega
    obtain ⟨lw, hlw⟩ : ∃ k, lower.length = k + 1 := ⟨lower.length - 1, by have := List.length_pos_iff.mpr cl; omega⟩
    dsimp only at hg
    rw [hlw, show lw + 1 - 1 = lw by omega] at hg
    rw [show (!(lower.map V.int).isEmpty) = true by cases lower with | nil => exact absurd rfl cl | cons a r => rfl]
    refine iteT ⟨SubInv H1 pu pw L fd m, fun σ' H' h => ⟨m, Nat.lt_succ_self m, h⟩, ?_⟩
    refine ⟨fun σ H' => σ = [some (.ref pu), some (.ref pw), some (.int (at_ : Int)), some (.ref L), some (.ref p4), some (.ref p5), some (.int scale), some (.int lead), some (.int (lw : Int)), x9, x10, x11, x12, x13] ∧ H' = H6, ?_, ?_⟩
    · refine ⟨_, rfl, p5, _, rfl, .inr (SqT.of e5), _, _, rfl, rfl, ?_, rfl⟩
      rw [List.length_map, hlw]
      show [_, _, _, _, _, _, _, _, some (V.int (((lw + 1 : Nat) : Int) - 1)), _, _, _, _, _] = _
      rw [show (((lw + 1 : Nat) : Int) - 1) = (lw : Int) by omega]
    rintro σ7 H7 ⟨rfl, rfl⟩
    refine ⟨fun σ H' => σ = [some (.ref pu), some (.ref pw), some (.int (at_ : Int)), some (.ref L), some (.ref p4), some (.ref p5), some (.int scale), some (.int lead), some (.int (lw : Int)), some (.int (hd lower)), x10, x11, x12, x13] ∧ H' = H7, ?_, ?_⟩
    · exact ⟨_, rfl, _, rfl, p5, _, _, _, rfl, rfl, SqT.of e5, at_last (by omega), rfl, rfl⟩
    rintro σ8 H8 ⟨rfl, rfl⟩
    generalize hown : oh (hd lower) scale (at_ - 1 - lw) = own at hg
    refine ⟨fun σ H' => σ = [some (.ref pu), some (.ref pw), some (.int (at_ : Int)), some (.ref L), some (.ref p4), some (.ref p5), some (.int scale), some (.int lead), some (.int (lw : Int)), some (.int (hd lower)), some (.int own), x11, x12, x13] ∧ Same H8 H', ?_, ?_⟩
    · refine ⟨_, rfl, _, rfl, _, rfl, _, _, rfl, rfl, _, rfl, _, _, rfl, rfl, hd lower, scale, at_ - 1 - lw, Kb, ?_, wl.hd, hs, by omega, ?_, fun H9 s9 => ⟨?_, s9⟩⟩
      · show [_, _, V.int ((at_ : Int) - 1 - (lw : Int))] = _
        rw [show (at_ : Int) - 1 - (lw : Int) = ((at_ - 1 - lw : Nat) : Int) by omega]
      · have := Nat.mul_le_mul_right Kb (show at_ - 1 - lw + 2 ≤ at_ + 1 by omega)
        omega
      · rw [hown]; rfl
    rintro σ9 H9 ⟨rfl, s9⟩
    have wo : Wd ((at_ - lw) * Kb) own := by
      have := oh_wd wl.hd hs (at_ - 1 - lw)
      rw [hown] at this
      rw [show at_ - 1 - lw + 1 = at_ - lw by omega] at this
      exact this
    have ne4 : p4 ≠ L := fun z => by rw [z, eL] at e4; cases e4
    have ne5 : p5 ≠ L := fun z => by rw [z, eL] at e5; cases e5
    have s19 := s6.trans s9
    have e49 := s9 _ _ e4
    have e59 := s9 _ _ e5
    have eL9 := s9 _ _ eL
    have rL9 := rL.kt (Kt.of s9)
    generalize hf1 : (if lw < at_ - 1 then fdl.set lw (lower.map fun n => (own * n).fdiv (hd lower)) else fdl) = found1 at hg
    have lf1 : found1.length = fdl.length := by rw [← hf1]; split; rw [List.length_set]; rfl
    refine ⟨fun σ H' => ∃ xs, σ = [some (.ref pu), some (.ref pw), some (.int (at_ : Int)), some (.ref L), some (.ref p4), some (.ref p5), some (.int scale), some (.int lead), some (.int (lw : Int)), some (.int (hd lower)), some (.int own), x11, x12, x13] ∧ Same H1 H' ∧ H' L = some (.lst xs) ∧ RoA H' xs found1 ∧ H' p4 = some (.tup (upper.map V.int)) ∧ H' p5 = some (.tup (lower.map V.int)), ?_, ?_⟩
    · refine ⟨_, rfl, _, rfl, _, _, rfl, rfl, _, _, rfl, rfl, _, rfl, ite2 (fun c => ?_) (fun c => ?_)⟩
      · have c := of_decide_eq_true c
        have c2 : lw < at_ - 1 := by omega
        rw [if_pos c2] at hf1
        have hmul := Nat.mul_le_mul_right Kb (show at_ - lw + 1 ≤ at_ + 1 by omega)
        rw [Nat.add_mul, Nat.one_mul] at hmul
        refine lc_relT (S := fun _ v k => v = V.int k) (R := fun _ v k => v = V.int k) (g := fun x => (own * x).fdiv (hd lower)) (rs := lower) (p := p5) (xs := lower.map V.int) (stable_eq _) (stable_eq _) rfl e59 (RelA.of_map _) (by omega) (fun x => wipeJ _ _ _) (fun x d Ha hd' sa rx Z hZ => ?_) fun D ys Ha sa nD eD ry => ?_
        · subst rx
          exact ⟨_, rfl, _, rfl, _, _, rfl, rfl, wo.cm (wl d hd') (by omega), _, rfl, _, _, rfl, rfl, h0, hZ _ _ (Same.refl _) rfl⟩
        · have ey := RelA.eq_map ry
          refine ⟨D, _, rfl, .inl ⟨SqL.of eD, fun l nl => ?_⟩⟩
          have sb := sa.trans (same_new (o := .tup ys) nl)
          have eLb := sb _ _ eL9
          refine ⟨_, rfl, _, rfl, L, _, _, lw, rfl, rfl, eLb, ixN_nat (by rw [rL.1]; omega), _, rfl, fun b o e => ?_, upd_same, ?_, ?_, ?_⟩
          · rw [upd_ne (ne_of_none e nL)]; exact (s19.trans sb) _ _ e
          · rw [← hf1]
            exact ((rL9.kt (Kt.of sb)).set lw ⟨l, rfl, by rw [upd_same, ey, List.map_map]; try rfl⟩).kt (kt_upd eLb)
          · rw [upd_ne ne4]; exact sb _ _ e49
          · rw [upd_ne ne5]; exact sb _ _ e59
      · have c2 : ¬ lw < at_ - 1 := fun z => c (decide_eq_true (by omega))
        rw [if_neg c2] at hf1
        subst hf1
        exact ⟨xs, rfl, s19, eL9, rL9, e49, e59⟩
    rintro σ10 H10 ⟨xs2, rfl, s10, eL10, rL10, e410, e510⟩
    refine ⟨fun σ H' => σ = [some (.ref pu), some (.ref pw), some (.int (at_ : Int)), some (.ref L), some (.ref p4), some (.ref p5), some (.int scale), some (.int lead), some (.int (lw : Int)), some (.int (hd lower)), some (.int own), x11, x12, x13] ∧ H' = H10 ∧ lw ≠ 0, ?_, ?_⟩
    · refine ⟨_, rfl, rfl, _, rfl, ite2 (fun c => ?_) (fun c => ?_)⟩
      · have c := of_decide_eq_true c
        injection c with c
        rw [if_pos (show lw = 0 by omega)] at hg
        injection hg with hg
        subst hg
        exact ⟨xs2, _, _, _, _, _, _, _, _, _, _, _, rfl, s10, eL10, rL10⟩
      · exact ⟨rfl, rfl, fun z => c (decide_eq_true (by rw [z]; rfl))⟩
    rintro σ11 H11 ⟨rfl, rfl, lw0⟩
    rw [if_neg lw0] at hg
    by_cases o0 : own = 0
    · rw [if_pos o0] at hg; cases hg
    rw [if_neg o0] at hg
    have d1 : 1 ≤ at_ - lw := by omega
    have hkb := kb1 d1 (show at_ - lw ≤ 5 by omega) K10
    have hK2 : 5 ^ (at_ - lw) * Kb * 5 ^ (lw - 1) = Kb * 5 ^ (at_ - 1) := by
      rw [Nat.mul_comm (5 ^ (at_ - lw)) Kb, Nat.mul_assoc, ← Nat.pow_add, show at_ - lw + (lw - 1) = at_ - 1 by omega]
    have hK3 : 5 ^ (at_ - lw) * Kb ≤ 490000 := by
      have := Nat.le_mul_of_pos_right (5 ^ (at_ - lw) * Kb) (Nat.pow_pos (n := lw - 1) (show 0 < 5 by decide))
      omega
    generalize hdel : at_ - lw = δ at *
    have e2δ : (2 * δ + 2) * Kb = δ * Kb + (Kb + (δ + 1) * Kb) := by
      rw [show 2 * δ + 2 = δ + (1 + (δ + 1)) by omega, Nat.add_mul, Nat.add_mul, Nat.one_mul]
    have e3δ : (δ + 1) * (Kb + 1) = (δ + 1) * Kb + (δ + 1) := by rw [Nat.mul_add, Nat.mul_one]
    have e4δ : (δ + 1) * Kb = δ * Kb + Kb := by rw [Nat.add_mul, Nat.one_mul]
    refine ⟨fun σ H' => σ = [some (.ref pu), some (.ref pw), some (.int (at_ : Int)), some (.ref L), some (.ref p4), some (.ref p5), some (.int scale), some (.int lead), some (.int (lw : Int)), some (.int (hd lower)), some (.int own), x11, some (.int (hd lower ^ δ * scale * lead)), x13] ∧ Same H11 H', ?_, ?_⟩
    · have wp := wl.hd.pow δ
      refine ⟨_, rfl, _, rfl, _, rfl, _, _, rfl, rfl, hd lower, δ, Kb, ?_, wl.hd, by omega, by omega, fun H12 s12 => ⟨_, rfl, _, _, rfl, rfl, wp.cm ws (by omega), _, rfl, _, _, rfl, rfl, (wp.mul ws).cm wd (by omega), rfl, s12⟩⟩
      show [_, V.int ((at_ : Int) - (lw : Int))] = _
      rw [show (at_ : Int) - (lw : Int) = (δ : Int) by omega]
    rintro σ12 H12 ⟨rfl, s12⟩
    have ov : hd lower ^ δ * scale * lead ≠ 0 := Int.mul_ne_zero (Int.mul_ne_zero (Int.pow_ne_zero h0) hs) hl
    generalize hd lower ^ δ * scale * lead = over at *
    have e412 := s12 _ _ e410
    have e512 := s12 _ _ e510
    have wfr : WdA (Kb + (δ + 1) * (Kb + 1)) (fr upper lower) := by
      have := (frGo_wd wl (upper.length - lower.length + 1) wu (by omega) (by omega)).1
      rw [show upper.length - lower.length + 1 = δ + 1 by omega] at this
      have := this.trim
      unfold fr
      rw [show upper.length - lower.length + 1 = δ + 1 by omega]
      exact this
    have lfr : (fr upper lower).length ≤ lw := by
      have := (frGo_wd wl (upper.length - lower.length + 1) wu (by omega) (by omega)).2
      have h2 := trimBy_len (fun c : Int => c == 0) (frGo lower (upper.length - lower.length + 1) upper)
      unfold fr trimI
      omega
    generalize hrest : (fr upper lower).map (fun n => (-own * n).fdiv over) = rest at hg
    have wrest : WdA (5 ^ δ * Kb) rest := fun c hc => by
      rw [← hrest] at hc
      obtain ⟨x, hx, rfl⟩ := List.mem_map.mp hc
      exact ((wo.neg.mul (wfr x hx)).fdiv ov).up (by omega)
    refine ⟨fun σ H' => ∃ p13, σ = [some (.ref pu), some (.ref pw), some (.int (at_ : Int)), some (.ref L), some (.ref p4), some (.ref p5), some (.int scale), some (.int lead), some (.int (lw : Int)), some (.int (hd lower)), some (.int own), x11, some (.int over), some (.ref p13)] ∧ Same H12 H' ∧ H' p13 = some (.tup (rest.map V.int)), ?_, ?_⟩
    · refine ⟨_, rfl, _, rfl, _, _, upper, lower, Kb, rfl, ⟨p4, rfl, e412⟩, ⟨p5, rfl, e512⟩, by omega, by omega, by omega, wu, wl, ?_, fun z H13 s13 rz => ?_⟩
      · rw [show upper.length - lower.length + 1 = δ + 1 by omega]; omega
      obtain ⟨pf, rfl, ef⟩ := rz
      have hRel := RelA.of_map (f := V.int) (H := H13) (fr upper lower)
      refine ⟨pf, rfl, ⟨_, SqT.of ef⟩, fun D hD => ?_⟩
      refine lc_tup (xs := (fr upper lower).map V.int) (fun m H' => Same H13 H' ∧ H' D = some (.lst ((((fr upper lower).take m).map fun n => (-own * n).fdiv over).map V.int))) ⟨same_new hD, upd_same⟩ (fun m H' _ h => SqT.of (h.1 _ _ ef)) (fun m x Ha hx h => ?_) (fun H' h => ?_)
      · obtain ⟨h1, h2⟩ := h
        have hm : m < (fr upper lower).length := by have := (List.getElem?_eq_some_iff.mp hx).1; rwa [List.length_map] at this
        rw [at_g hm] at hx
        injection hx with hx
        subst hx
        refine ⟨wipeJ _ _ _, ?_⟩
        unfold tYes
        simp only [if_true]
        refine ⟨_, rfl, _, rfl, _, rfl, _, _, rfl, rfl, wo.neg.cm (wfr.g m) (by omega), _, rfl, _, _, rfl, rfl, ov, _, h2, lt_line (by rw [List.length_map, List.length_map, List.length_take]; omega), same_upd h1 hD, ?_⟩
        rw [upd_same, List.take_add_one, List.getElem?_eq_getElem hm, List.map_append, List.map_append, g_some hm]
        rfl
      · obtain ⟨h1, h2⟩ := h
        rw [List.length_map, List.take_length, hrest] at h2
        exact ⟨D, _, rfl, .inl ⟨SqL.of h2, fun l nl => ⟨l, rfl, s13.trans (h1.trans (same_new nl)), upd_same⟩⟩⟩
    rintro σ13 H13 ⟨p13, rfl, s13, e13⟩
    have sA := s12.trans s13
    have eL13 := sA _ _ eL10
    have ne13 : p13 ≠ L := fun z => by rw [z, eL13] at e13; cases e13
    refine ⟨fun σ H' => ∃ xs, σ = [some (.ref pu), some (.ref pw), some (.int (at_ : Int)), some (.ref L), some (.ref p4), some (.ref p5), some (.int scale), some (.int lead), some (.int (lw : Int)), some (.int (hd lower)), some (.int own), x11, some (.int over), some (.ref p13)] ∧ Same H1 H' ∧ H' L = some (.lst xs) ∧ RoA H' xs (found1.set (lw - 1) rest) ∧ H' p5 = some (.tup (lower.map V.int)) ∧ H' p13 = some (.tup (rest.map V.int)), ?_, ?_⟩
    · refine ⟨_, rfl, _, rfl, _, rfl, _, _, rfl, rfl, L, _, _, lw - 1, rfl, rfl, eL13, ?_, _, rfl, fun b o e => ?_, upd_same, ?_, ?_, ?_⟩
      · rw [show (lw : Int) - 1 = ((lw - 1 : Nat) : Int) by omega]
        exact ixN_nat (by rw [rL10.1]; omega)
      · rw [upd_ne (ne_of_none e nL)]; exact (s10.trans sA) _ _ e
      · exact ((rL10.kt (Kt.of sA)).set (lw - 1) ⟨p13, rfl, e13⟩).kt (kt_upd eL13)
      · rw [upd_ne ne5]; exact sA _ _ e510
      · rw [upd_ne ne13]; exact e13
    rintro σ14 H14 ⟨xs14, rfl, s14, eL14, rL14, e514, e1314⟩
    refine ⟨fun σ H' => σ = [some (.ref pu), some (.ref pw), some (.int (lw : Int)), some (.ref L), some (.ref p5), some (.ref p13), some (.int scale), some (.int lead), some (.int (lw : Int)), some (.int (hd lower)), some (.int own), x11, some (.int over), some (.ref p13)] ∧ H' = H14, ?_, ?_⟩
    · exact ⟨_, rfl, _, rfl, _, rfl, _, _, _, rfl, rfl, rfl⟩
    rintro σ15 H15 ⟨rfl, rfl⟩
    refine ⟨_, rfl, _, rfl, _, _, rfl, xs14, lw, p5, p13, lower, rest, own, hd lower, 5 ^ δ * Kb, found1.set (lw - 1) rest, _, _, _, _, _, _, rfl, s14, eL14, rL14, e514, e1314, ?_, o0, h0, hlw, by omega, by omega, ?_, ?_, wl.up (by omega), wrest, wo.up (by omega), wl.hd.up (by omega), by omega, by rw [hK2]; exact hK⟩
    · exact hg
    · rw [List.length_set]; omega
    · rw [List.length_set]; omega
  rintro σ6 H6 ⟨xs, x2, x4, x5, x6, x7, x8, x9, x10, x11, x12, x13, rfl, s6, eL, rL⟩
  refine ⟨_, rfl, L, xs, rfl, .inl ⟨SqL.of eL, fun l nl => q _ _ (s6.trans (same_new nl)) ⟨l, xs, rfl, upd_same, rL.kt (Kt.of (same_new nl))⟩⟩⟩
end
end K27

set_option Elab.async false
set_option linter.all false
set_option maxRecDepth 100000
set_option maxHeartbeats 8000000
local macro_rules | `(tactic| walk_at "rd") => `(tactic| dsimp only [Evl.tCut, L2.tSeq, L2.tNext, L2.tRet, L2.tRetN, L2.tAsg, L2.gName, L2.tIfS, L2.tDrop, L2.tCons, L2.tNil, L2.tC, L2.tVar, L2.tCB, L2.tAndV, L2.tOrV, L2.tNotV, L2.tB, L2.tTest, L2.tOp, L2.tUn, L2.tNot, L2.tAnd, L2.tOr, L2.tIf, L2.tCall, L2.tTup, L2.tLst, L2.tNotT, L2.tYes, L2.gTup, L2.gCons, L2.gNil, L2.gSub, L2.tBM0, L2.tBM, L2.tWhile, L2.tFor, L2.iRng1, L2.iRng2, L2.tAugS, Tw.iEnumT, L2.tCKw, L2.tAug, L2.ipI, RT.iRevA, L2.iRevR, L2.tPar, L2.tPar3, L2.tSl, L2.tNoPart, L2.tPart, Tw.tRevT, L2.rAdd, L2.rSub, L2.tBits])
namespace K27
open PySem PySem.Spec PyProof.Rows L2 Tw
/-! sizes, bits, packed POLYs -/
def sumN (p : List (List Int)) : Nat := (p.map nm).sum
def spSizes : Sp := fun vs H Q _ => ∃ u p, vs = [u] ∧ Po H u p ∧ p.length ≤ 100 ∧ (∀ r ∈ p, r.length ≤ 100) ∧ ∀ H', Same H H' → Q (.int ((sumN p : Nat) : Int)) H'
def szOf (p q : List (List Int)) : Nat := sumN p ^ q.length * sumN q ^ p.length
def spBitsFor : Sp := fun vs H Q _ => ∃ (u v : V) (p q : List (List Int)) (B : Nat), vs = [u, v] ∧ Po H u p ∧ Po H v q ∧ p.length ≤ 100 ∧ q.length ≤ 100 ∧ (∀ r ∈ p, r.length ≤ 100) ∧ (∀ r ∈ q, r.length ≤ 100) ∧ sumN p < 2 ^ B ∧ sumN q < 2 ^ B ∧ B ≤ 1000 ∧
  ∀ (b : Nat) H', szOf p q < 2 ^ b → (∀ c : Nat, szOf p q < 2 ^ c → b ≤ c) → Same H H' → Q (.int ((b + 2 : Nat) : Int)) H'
def spPackedP : Sp := fun vs H Q _ => ∃ (u : V) (p : List (List Int)) (b : Nat), vs = [u, .int (b : Int)] ∧ Po H u p ∧ p.length ≤ 100 ∧ (∀ r ∈ p, r.length ≤ 100 ∧ nm r < 2 ^ b) ∧ b ≤ 10000 ∧ ∀ z H', Same H H' → Ro H' z (p.map (ev (2 ^ b))) → Q z H'
theorem sum_abs : ∀ r : List Int, (r.map fun x => ((x.natAbs : Nat) : Int)).sum = ((nm r : Nat) : Int)
  | [] => rfl
  | a :: r => by rw [List.map_cons, List.sum_cons, sum_abs r, nm]; omega
theorem sum_nm : ∀ p : List (List Int), (p.map fun r => ((nm r : Nat) : Int)).sum = ((sumN p : Nat) : Int)
  | [] => rfl
  | a :: p => by
    have := sum_nm p
    rw [List.map_cons, List.sum_cons, this]
    unfold sumN
    rw [List.map_cons, List.sum_cons]
    omega
section
variable {P : Program} {w : World} {K : PySem.W.Frag} {mg : Str → Option Value} {base : Heap}
theorem scSizes : FnScope ["poly", "row", "number"] ["poly"] (defScope sSizes) := ⟨rfl, rfl, rfl, by decide +kernel, rfl, by decide +kernel, by decide +kernel⟩
theorem ok_sizes (D : Def K mg "sum_of_sizes" sSizes ["poly"]) (nb : Nb mg) : Cal P w K mg base "sum_of_sizes" 1 ["poly"] spSizes := by
  refine D.ok scSizes (fun vs H Q E h => ?_) (fun f cdv A out s H vs Q E hr h => ?_)
  · obtain ⟨u, p, rfl, _⟩ := h; rfl
  obtain ⟨u, p, rfl, ⟨pu, xs, rfl, eu, ru⟩, lp, lr, q⟩ := h
  refine ⟨_, pss_one (ps_ret (pe_callB (id := "sum") (r := rSum K) (cr_sum rfl) (by rfl) nb.sum (by decide +kernel) (pa_cons (pe_lc (own := [("row", 1)]) (g := gName 1) (tt := tYes) rfl scSizes.nd (pi_tup (pv 0)) (blkOk_by (N := ["poly", "row", "number"]) (sc := defScope sSizes) (by decide +kernel)) (fun _ _ _ _ _ => pg_name (i := 1) scSizes.nd rfl (Or.inl rfl)) (fun _ _ _ _ _ => pts_nil) (fun _ _ _ _ _ => (pe_callB (id := "sum") (r := rSum K) (cr_sum rfl) (by rfl) nb.sum (by decide +kernel) (pa_cons (pe_lc (own := [("number", 2)]) (wi := L2.iTup K (L2.tVar 1)) (g := gName 2) (tt := tYes) rfl scSizes.nd (by exact pi_tup (pv 1)) (blkOk_by (N := ["poly", "row", "number"]) (sc := { kind := .function, names := [(".0", .local), ("row", .local), ("sum", .globalImplicit)], isGenerator := false, isCoroutine := false }) (by decide +kernel)) (fun _ _ _ _ _ => pg_name (i := 2) scSizes.nd rfl (Or.inl rfl)) (fun _ _ _ _ _ => pts_nil) (fun _ _ _ _ _ => (pe_callB (id := "abs") call_abs (by rfl) nb.abs (by decide +kernel) (pa_cons (pv 2) pa_nil)))) pa_nil)))) pa_nil))), ?_⟩
  walk_at "rd"
  refine lc_relT (S := Ro) (R := fun _ v k => v = V.int k) (g := fun r => ((nm r : Nat) : Int)) (rs := p) (p := pu) (xs := xs) stable_ro (stable_eq _) rfl eu ru (by omega) (fun x => wipeJ _ _ _) (fun x d Ha hd' sa rx Z hZ => ?_) fun D ys Ha sa nD eD ry => ?_
  · obtain ⟨pd, rfl, ed⟩ := rx
    walk_at "rd"
    refine lc_relT (S := fun _ v k => v = V.int k) (R := fun _ v k => v = V.int k) (g := fun x => ((x.natAbs : Nat) : Int)) (rs := d) (p := pd) (xs := d.map V.int) (stable_eq _) (stable_eq _) rfl ed (RelA.of_map _) (by have := lr d hd'; omega) (fun x => wipeJ _ _ _) (fun x c Hb hc sb rx Y hY => ?_) fun D ys Hb sb nD eD ry => ?_
    · subst rx
      exact ⟨_, rfl, c, rfl, hY _ _ (Same.refl _) (by congr 1; split <;> omega)⟩
    · have ey := RelA.eq_map ry
      refine ⟨D, _, rfl, SqL.of (by rw [eD, ey]), ?_⟩
      rw [sum_abs]
      exact hZ _ _ sb rfl
  · have ey := RelA.eq_map ry
    refine ⟨D, _, rfl, SqL.of (by rw [eD, ey]), ?_⟩
    rw [sum_nm]
    exact q _ sa
theorem scBitsFor : FnScope ["one", "other", "size"] ["one", "other"] (defScope sBitsFor) := ⟨rfl, rfl, rfl, by decide +kernel, rfl, by decide +kernel, by decide +kernel⟩
theorem ok_bitsFor (D : Def K mg "bits_for" sBitsFor ["one", "other"]) (nb : Nb mg) (cp : Cal P w K mg base "power" 1 ["base", "many"] spPower) (cs : Cal P w K mg base "sum_of_sizes" 1 ["poly"] spSizes) : Cal P w K mg base "bits_for" 2 ["one", "other"] spBitsFor := by
  refine D.ok scBitsFor (fun vs H Q E h => ?_) (fun f cdv A out s H vs Q E hr h => ?_)
  · obtain ⟨u, v, p, q, B, rfl, _⟩ := h; rfl
  obtain ⟨u, v, p, q', B, rfl, hu, hv, lp, lq, rp, rq, sp, sq, hB, q⟩ := h
  refine ⟨_, pss_cons (ps_set (i := 2) scBitsFor.nd rfl (Or.inl rfl) (pe_op op_mulW (pe_cal cp hr (by omega) (by rfl) (pa_cons (pe_cal cs hr (by omega) (by rfl) (pa_cons (pv 0) pa_nil)) (pa_cons (pe_callB (id := "len") (r := rLn K) call_len_seq (by rfl) nb.len PySem.boot_len (pa_cons (pv 1) pa_nil)) pa_nil))) (pe_cal cp hr (by omega) (by rfl) (pa_cons (pe_cal cs hr (by omega) (by rfl) (pa_cons (pv 1) pa_nil)) (pa_cons (pe_callB (id := "len") (r := rLn K) call_len_seq (by rfl) nb.len PySem.boot_len (pa_cons (pv 0) pa_nil)) pa_nil)))))
    (pss_one (ps_ret (pe_op op_add (pe_bits (pv 2)) pe_int))), ?_⟩
  walk_at "rd"
  obtain ⟨pu, xs, rfl, eu, ru⟩ := hu
  obtain ⟨pw, ys, rfl, ew, rw⟩ := hv
  have wp : Wd B ((sumN p : Nat) : Int) := by unfold Wd; rw [Int.natAbs_natCast]; exact sp
  have wq : Wd B ((sumN q' : Nat) : Int) := by unfold Wd; rw [Int.natAbs_natCast]; exact sq
  have hpB := Nat.mul_le_mul lp hB
  have hqB := Nat.mul_le_mul lq hB
  refine ⟨_, rfl, .ref pu, p, rfl, ⟨pu, xs, rfl, eu, ru⟩, lp, rp, fun H1 s1 => ⟨_, rfl, pw, ys, rfl, .inr (SqT.of (s1 _ _ ew)), _, q'.length, B, ?_, wp, by omega, by omega, fun H2 s2 => ?_⟩⟩
  · rw [rw.1]; rfl
  have s12 := s1.trans s2
  refine ⟨_, rfl, .ref pw, q', rfl, ⟨pw, ys, rfl, s12 _ _ ew, rw.kt (Kt.of s12)⟩, lq, rq, fun H3 s3 => ⟨_, rfl, pu, xs, rfl, .inr (SqT.of ((s12.trans s3) _ _ eu)), _, p.length, B, ?_, wq, by omega, by omega, fun H4 s4 => ?_⟩⟩
  · rw [ru.1]; rfl
  have e : (((sumN p : Nat) : Int) ^ q'.length) * (((sumN q' : Nat) : Int) ^ p.length) = ((szOf p q' : Nat) : Int) := by
    unfold szOf
    rw [Int.natCast_mul, Int.natCast_pow, Int.natCast_pow]
  refine ⟨_, _, rfl, rfl, (wp.pow _).cm (wq.pow _) (by omega), _, rfl, _, rfl, _, _, rfl, rfl, ?_⟩
  dsimp only
  rw [e]
  have hb : szOf p q' < 2 ^ Builtin.Int.intBits ((szOf p q' : Nat) : Int) := by
    unfold Builtin.Int.intBits
    rw [Int.natAbs_natCast]
    split
    · rename_i z
      have z : ((szOf p q' : Nat) : Int) = 0 := by simpa using z
      rw [show szOf p q' = 0 by omega]; decide
    · exact Nat.lt_log2_self
  have := q (Builtin.Int.intBits ((szOf p q' : Nat) : Int)) H4 hb (fun c hc => intBits_le (by unfold Wd; rw [Int.natAbs_natCast]; exact hc)) (s12.trans (s3.trans s4))
  rw [Int.natCast_add] at this
  exact this
theorem scPackedP : FnScope ["poly", "bits", "row"] ["poly", "bits"] (defScope sPackedP) := ⟨rfl, rfl, rfl, by decide +kernel, rfl, by decide +kernel, by decide +kernel⟩
theorem ok_packedP (D : Def K mg "packed_poly" sPackedP ["poly", "bits"]) (nb : Nb mg) (ck : Cal P w K mg base "packed" 1 ["row", "bits"] spPacked) : Cal P w K mg base "packed_poly" 2 ["poly", "bits"] spPackedP := by
  refine D.ok scPackedP (fun vs H Q E h => ?_) (fun f cdv A out s H vs Q E hr h => ?_)
  · obtain ⟨u, p, b, rfl, _⟩ := h; rfl
  obtain ⟨u, p, b, rfl, ⟨pu, xs, rfl, eu, ru⟩, lp, lr, hb, q⟩ := h
  refine ⟨_, pss_one (ps_ret (pe_callTy (T := "tuple") call_tuple_of (by rfl) nb.tup (by decide +kernel) (pa_cons (pe_lc (own := [("row", 2)]) (g := gName 2) (tt := tYes) rfl scPackedP.nd (pi_tup (pv 0)) (blkOk_by (N := ["poly", "bits", "row"]) (sc := defScope sPackedP) (by decide +kernel)) (fun _ _ _ _ _ => pg_name (i := 2) scPackedP.nd rfl (Or.inl rfl)) (fun _ _ _ _ _ => pts_nil) (fun _ _ _ _ _ => (pe_cal ck hr (by omega) (by rfl) (pa_cons (pv 2) (pa_cons (pv 1) pa_nil))))) pa_nil))), ?_⟩
  walk_at "rd"
  refine lc_relT (S := Ro) (R := fun _ v k => v = V.int k) (g := fun r => ev (2 ^ b) r) (rs := p) (p := pu) (xs := xs) stable_ro (stable_eq _) rfl eu ru (by omega) (fun x => wipeJ _ _ _) (fun x d Ha hd' sa rx Z hZ => ?_) fun D ys Ha sa nD eD ry => ?_
  · exact ⟨_, rfl, _, rfl, x, d, b, rfl, rx, (lr d hd').1, hb, (lr d hd').2, fun Hb sb => hZ _ _ sb rfl⟩
  · have ey := RelA.eq_map ry
    exact ⟨D, _, rfl, .inl ⟨SqL.of eD, fun l nl => q _ _ (sa.trans (same_new nl)) ⟨l, rfl, by rw [upd_same, ey]⟩⟩⟩
end
end K27

set_option Elab.async false
set_option linter.all false
set_option maxRecDepth 100000
set_option maxHeartbeats 8000000
/-! discriminants as expressions, and how large they are -/
namespace K27
def DE1 : Ex := .k (1)
theorem nrm1 (p0 p1 : Nat) : (p0 + p1) ^ 0 * (1 * p1) ^ 1 = (p1) + (0) := by grind
theorem DE1_int (ρ : Nat → Int) : DE1.int ρ = (1 : Int) := by
  simp only [DE1, Ex.int]
  try grind
theorem DE1_nrm (ρ : Nat → Nat) : ρ 1 * DE1.nrm ρ ≤ (ρ 0 + ρ 1) ^ 0 * (1 * ρ 1) ^ 1 := by
  have h := nrm1 (ρ 0) (ρ 1)
  have e : ρ 1 * DE1.nrm ρ = ρ 1 := by
    simp only [DE1, Ex.nrm, Int.natAbs_neg, Int.natAbs_one, Int.reduceNeg]
    try grind
  rw [e, h]
  exact Nat.le_add_right _ _
def DE2 : Ex := .add (.mul (.mul (.k (-4)) (.v 0)) (.v 2)) (.mul (.mul (.k (1)) (.v 1)) (.v 1))
theorem nrm2 (p0 p1 p2 : Nat) : (p0 + p1 + p2) ^ 1 * (1 * p1 + 2 * p2) ^ 2 = (4 * p0 * p2 ^ 2 + p1 ^ 2 * p2) + (p0 * p1 ^ 2 + 4 * p0 * p1 * p2 + p1 ^ 3 + 4 * p1 ^ 2 * p2 + 8 * p1 * p2 ^ 2 + 4 * p2 ^ 3) := by grind
theorem DE2_int (ρ : Nat → Int) : DE2.int ρ = D2 (ρ 2) (ρ 1) (ρ 0) := by
  simp only [DE2, Ex.int, D2]
  try grind
theorem DE2_nrm (ρ : Nat → Nat) : ρ 2 * DE2.nrm ρ ≤ (ρ 0 + ρ 1 + ρ 2) ^ 1 * (1 * ρ 1 + 2 * ρ 2) ^ 2 := by
  have h := nrm2 (ρ 0) (ρ 1) (ρ 2)
  have e : ρ 2 * DE2.nrm ρ = 4 * ρ 0 * ρ 2 ^ 2 + ρ 1 ^ 2 * ρ 2 := by
    simp only [DE2, Ex.nrm, Int.natAbs_neg, Int.natAbs_one, Int.reduceNeg]
    try grind
  rw [e, h]
  exact Nat.le_add_right _ _
def DE3 : Ex := .add (.add (.add (.add (.mul (.mul (.mul (.mul (.k (-27)) (.v 0)) (.v 0)) (.v 3)) (.v 3)) (.mul (.mul (.mul (.mul (.k (18)) (.v 0)) (.v 1)) (.v 2)) (.v 3))) (.mul (.mul (.mul (.mul (.k (-4)) (.v 0)) (.v 2)) (.v 2)) (.v 2))) (.mul (.mul (.mul (.mul (.k (-4)) (.v 1)) (.v 1)) (.v 1)) (.v 3))) (.mul (.mul (.mul (.mul (.k (1)) (.v 1)) (.v 1)) (.v 2)) (.v 2))
theorem nrm3 (p0 p1 p2 p3 : Nat) : (p0 + p1 + p2 + p3) ^ 2 * (1 * p1 + 2 * p2 + 3 * p3) ^ 3 = (27 * p0 ^ 2 * p3 ^ 3 + 18 * p0 * p1 * p2 * p3 ^ 2 + 4 * p0 * p2 ^ 3 * p3 + 4 * p1 ^ 3 * p3 ^ 2 + p1 ^ 2 * p2 ^ 2 * p3) + (p0 ^ 2 * p1 ^ 3 + 6 * p0 ^ 2 * p1 ^ 2 * p2 + 9 * p0 ^ 2 * p1 ^ 2 * p3 + 12 * p0 ^ 2 * p1 * p2 ^ 2 + 36 * p0 ^ 2 * p1 * p2 * p3 + 27 * p0 ^ 2 * p1 * p3 ^ 2 + 8 * p0 ^ 2 * p2 ^ 3 + 36 * p0 ^ 2 * p2 ^ 2 * p3 + 54 * p0 ^ 2 * p2 * p3 ^ 2 + 2 * p0 * p1 ^ 4 + 14 * p0 * p1 ^ 3 * p2 + 20 * p0 * p1 ^ 3 * p3 + 36 * p0 * p1 ^ 2 * p2 ^ 2 + 102 * p0 * p1 ^ 2 * p2 * p3 + 72 * p0 * p1 ^ 2 * p3 ^ 2 + 40 * p0 * p1 * p2 ^ 3 + 168 * p0 * p1 * p2 ^ 2 * p3 + 216 * p0 * p1 * p2 * p3 ^ 2 + 108 * p0 * p1 * p3 ^ 3 + 16 * p0 * p2 ^ 4 + 84 * p0 * p2 ^ 3 * p3 + 180 * p0 * p2 ^ 2 * p3 ^ 2 + 162 * p0 * p2 * p3 ^ 3 + 54 * p0 * p3 ^ 4 + p1 ^ 5 + 8 * p1 ^ 4 * p2 + 11 * p1 ^ 4 * p3 + 25 * p1 ^ 3 * p2 ^ 2 + 68 * p1 ^ 3 * p2 * p3 + 42 * p1 ^ 3 * p3 ^ 2 + 38 * p1 ^ 2 * p2 ^ 3 + 152 * p1 ^ 2 * p2 ^ 2 * p3 + 204 * p1 ^ 2 * p2 * p3 ^ 2 + 90 * p1 ^ 2 * p3 ^ 3 + 28 * p1 * p2 ^ 4 + 148 * p1 * p2 ^ 3 * p3 + 291 * p1 * p2 ^ 2 * p3 ^ 2 + 252 * p1 * p2 * p3 ^ 3 + 81 * p1 * p3 ^ 4 + 8 * p2 ^ 5 + 52 * p2 ^ 4 * p3 + 134 * p2 ^ 3 * p3 ^ 2 + 171 * p2 ^ 2 * p3 ^ 3 + 108 * p2 * p3 ^ 4 + 27 * p3 ^ 5) := by grind
theorem DE3_int (ρ : Nat → Int) : DE3.int ρ = D3 (ρ 3) (ρ 2) (ρ 1) (ρ 0) := by
  simp only [DE3, Ex.int, D3]
  try grind
theorem DE3_nrm (ρ : Nat → Nat) : ρ 3 * DE3.nrm ρ ≤ (ρ 0 + ρ 1 + ρ 2 + ρ 3) ^ 2 * (1 * ρ 1 + 2 * ρ 2 + 3 * ρ 3) ^ 3 := by
  have h := nrm3 (ρ 0) (ρ 1) (ρ 2) (ρ 3)
  have e : ρ 3 * DE3.nrm ρ = 27 * ρ 0 ^ 2 * ρ 3 ^ 3 + 18 * ρ 0 * ρ 1 * ρ 2 * ρ 3 ^ 2 + 4 * ρ 0 * ρ 2 ^ 3 * ρ 3 + 4 * ρ 1 ^ 3 * ρ 3 ^ 2 + ρ 1 ^ 2 * ρ 2 ^ 2 * ρ 3 := by
    simp only [DE3, Ex.nrm, Int.natAbs_neg, Int.natAbs_one, Int.reduceNeg]
    try grind
  rw [e, h]
  exact Nat.le_add_right _ _
def X0 : Ex := .add (.add (.add (.add (.mul (.mul (.mul (.mul (.mul (.mul (.k (-27)) (.v 1)) (.v 1)) (.v 1)) (.v 1)) (.v 4)) (.v 4)) (.mul (.mul (.mul (.mul (.mul (.mul (.k (18)) (.v 1)) (.v 1)) (.v 1)) (.v 2)) (.v 3)) (.v 4))) (.mul (.mul (.mul (.mul (.mul (.mul (.k (-4)) (.v 1)) (.v 1)) (.v 1)) (.v 3)) (.v 3)) (.v 3))) (.mul (.mul (.mul (.mul (.mul (.mul (.k (-4)) (.v 1)) (.v 1)) (.v 2)) (.v 2)) (.v 2)) (.v 4))) (.mul (.mul (.mul (.mul (.mul (.mul (.k (1)) (.v 1)) (.v 1)) (.v 2)) (.v 2)) (.v 3)) (.v 3))
theorem q0 (p1 p2 p3 p4 : Nat) : 1 * ((p1 + p2 + p3 + p4) ^ 3 * (1 * p1 + 2 * p2 + 3 * p3 + 4 * p4) ^ 4) = (27 * p1 ^ 4 * p4 ^ 3 + 18 * p1 ^ 3 * p2 * p3 * p4 ^ 2 + 4 * p1 ^ 3 * p3 ^ 3 * p4 + 4 * p1 ^ 2 * p2 ^ 3 * p4 ^ 2 + p1 ^ 2 * p2 ^ 2 * p3 ^ 2 * p4) + (p1 ^ 7 + 11 * p1 ^ 6 * p2 + 15 * p1 ^ 6 * p3 + 19 * p1 ^ 6 * p4 + 51 * p1 ^ 5 * p2 ^ 2 + 138 * p1 ^ 5 * p2 * p3 + 174 * p1 ^ 5 * p2 * p4 + 93 * p1 ^ 5 * p3 ^ 2 + 234 * p1 ^ 5 * p3 * p4 + 147 * p1 ^ 5 * p4 ^ 2 + 129 * p1 ^ 4 * p2 ^ 3 + 519 * p1 ^ 4 * p2 ^ 2 * p3 + 651 * p1 ^ 4 * p2 ^ 2 * p4 + 693 * p1 ^ 4 * p2 * p3 ^ 2 + 1734 * p1 ^ 4 * p2 * p3 * p4 + 1083 * p1 ^ 4 * p2 * p4 ^ 2 + 307 * p1 ^ 4 * p3 ^ 3 + 1149 * p1 ^ 4 * p3 ^ 2 * p4 + 1431 * p1 ^ 4 * p3 * p4 ^ 2 + 566 * p1 ^ 4 * p4 ^ 3 + 192 * p1 ^ 3 * p2 ^ 4 + 1020 * p1 ^ 3 * p2 ^ 3 * p3 + 1272 * p1 ^ 3 * p2 ^ 3 * p4 + 2022 * p1 ^ 3 * p2 ^ 2 * p3 ^ 2 + 5028 * p1 ^ 3 * p2 ^ 2 * p3 * p4 + 3120 * p1 ^ 3 * p2 ^ 2 * p4 ^ 2 + 1772 * p1 ^ 3 * p2 * p3 ^ 3 + 6588 * p1 ^ 3 * p2 * p3 ^ 2 * p4 + 8130 * p1 ^ 3 * p2 * p3 * p4 ^ 2 + 3352 * p1 ^ 3 * p2 * p4 ^ 3 + 579 * p1 ^ 3 * p3 ^ 4 + 2856 * p1 ^ 3 * p3 ^ 3 * p4 + 5286 * p1 ^ 3 * p3 ^ 2 * p4 ^ 2 + 4332 * p1 ^ 3 * p3 * p4 ^ 3 + 1328 * p1 ^ 3 * p4 ^ 4 + 168 * p1 ^ 2 * p2 ^ 5 + 1104 * p1 ^ 2 * p2 ^ 4 * p3 + 1368 * p1 ^ 2 * p2 ^ 4 * p4 + 2886 * p1 ^ 2 * p2 ^ 3 * p3 ^ 2 + 7128 * p1 ^ 2 * p2 ^ 3 * p3 * p4 + 4388 * p1 ^ 2 * p2 ^ 3 * p4 ^ 2 + 3750 * p1 ^ 2 * p2 ^ 2 * p3 ^ 3 + 13841 * p1 ^ 2 * p2 ^ 2 * p3 ^ 2 * p4 + 16992 * p1 ^ 2 * p2 ^ 2 * p3 * p4 ^ 2 + 6936 * p1 ^ 2 * p2 ^ 2 * p4 ^ 3 + 2421 * p1 ^ 2 * p2 * p3 ^ 4 + 11868 * p1 ^ 2 * p2 * p3 ^ 3 * p4 + 21762 * p1 ^ 2 * p2 * p3 ^ 2 * p4 ^ 2 + 17688 * p1 ^ 2 * p2 * p3 * p4 ^ 3 + 5376 * p1 ^ 2 * p2 * p4 ^ 4 + 621 * p1 ^ 2 * p3 ^ 5 + 3789 * p1 ^ 2 * p3 ^ 4 * p4 + 9222 * p1 ^ 2 * p3 ^ 3 * p4 ^ 2 + 11190 * p1 ^ 2 * p3 ^ 2 * p4 ^ 3 + 6768 * p1 ^ 2 * p3 * p4 ^ 4 + 1632 * p1 ^ 2 * p4 ^ 5 + 80 * p1 * p2 ^ 6 + 624 * p1 * p2 ^ 5 * p3 + 768 * p1 * p2 ^ 5 * p4 + 2016 * p1 * p2 ^ 4 * p3 ^ 2 + 4944 * p1 * p2 ^ 4 * p3 * p4 + 3024 * p1 * p2 ^ 4 * p4 ^ 2 + 3452 * p1 * p2 ^ 3 * p3 ^ 3 + 12648 * p1 * p2 ^ 3 * p3 ^ 2 * p4 + 15408 * p1 * p2 ^ 3 * p3 * p4 ^ 2 + 6240 * p1 * p2 ^ 3 * p4 ^ 3 + 3303 * p1 * p2 ^ 2 * p3 ^ 4 + 16068 * p1 * p2 ^ 2 * p3 ^ 3 * p4 + 29232 * p1 * p2 ^ 2 * p3 ^ 2 * p4 ^ 2 + 23568 * p1 * p2 ^ 2 * p3 * p4 ^ 3 + 7104 * p1 * p2 ^ 2 * p4 ^ 4 + 1674 * p1 * p2 * p3 ^ 5 + 10134 * p1 * p2 * p3 ^ 4 * p4 + 24468 * p1 * p2 * p3 ^ 3 * p4 ^ 2 + 29448 * p1 * p2 * p3 ^ 2 * p4 ^ 3 + 17664 * p1 * p2 * p3 * p4 ^ 4 + 4224 * p1 * p2 * p4 ^ 5 + 351 * p1 * p3 ^ 6 + 2538 * p1 * p3 ^ 5 * p4 + 7623 * p1 * p3 ^ 4 * p4 ^ 2 + 12172 * p1 * p3 ^ 3 * p4 ^ 3 + 10896 * p1 * p3 ^ 2 * p4 ^ 4 + 5184 * p1 * p3 * p4 ^ 5 + 1024 * p1 * p4 ^ 6 + 16 * p2 ^ 7 + 144 * p2 ^ 6 * p3 + 176 * p2 ^ 6 * p4 + 552 * p2 ^ 5 * p3 ^ 2 + 1344 * p2 ^ 5 * p3 * p4 + 816 * p2 ^ 5 * p4 ^ 2 + 1168 * p2 ^ 4 * p3 ^ 3 + 4248 * p2 ^ 4 * p3 ^ 2 * p4 + 5136 * p2 ^ 4 * p3 * p4 ^ 2 + 2064 * p2 ^ 4 * p4 ^ 3 + 1473 * p2 ^ 3 * p3 ^ 4 + 7112 * p2 ^ 3 * p3 ^ 3 * p4 + 12840 * p2 ^ 3 * p3 ^ 2 * p4 ^ 2 + 10272 * p2 ^ 3 * p3 * p4 ^ 3 + 3072 * p2 ^ 3 * p4 ^ 4 + 1107 * p2 ^ 2 * p3 ^ 5 + 6651 * p2 ^ 2 * p3 ^ 4 * p4 + 15936 * p2 ^ 2 * p3 ^ 3 * p4 ^ 2 + 19032 * p2 ^ 2 * p3 ^ 2 * p4 ^ 3 + 11328 * p2 ^ 2 * p3 * p4 ^ 4 + 2688 * p2 ^ 2 * p4 ^ 5 + 459 * p2 * p3 ^ 6 + 3294 * p2 * p3 ^ 5 * p4 + 9819 * p2 * p3 ^ 4 * p4 ^ 2 + 15560 * p2 * p3 ^ 3 * p4 ^ 3 + 13824 * p2 * p3 ^ 2 * p4 ^ 4 + 6528 * p2 * p3 * p4 ^ 5 + 1280 * p2 * p4 ^ 6 + 81 * p3 ^ 7 + 675 * p3 ^ 6 * p4 + 2403 * p3 ^ 5 * p4 ^ 2 + 4737 * p3 ^ 4 * p4 ^ 3 + 5584 * p3 ^ 3 * p4 ^ 4 + 3936 * p3 ^ 2 * p4 ^ 5 + 1536 * p3 * p4 ^ 6 + 256 * p4 ^ 7) := by grind
theorem X0_nrm (ρ : Nat → Nat) : ρ 4 * X0.nrm ρ ≤ 1 * ((ρ 1 + ρ 2 + ρ 3 + ρ 4) ^ 3 * (1 * ρ 1 + 2 * ρ 2 + 3 * ρ 3 + 4 * ρ 4) ^ 4) := by
  have h := q0 (ρ 1) (ρ 2) (ρ 3) (ρ 4)
  have e : ρ 4 * X0.nrm ρ = 27 * ρ 1 ^ 4 * ρ 4 ^ 3 + 18 * ρ 1 ^ 3 * ρ 2 * ρ 3 * ρ 4 ^ 2 + 4 * ρ 1 ^ 3 * ρ 3 ^ 3 * ρ 4 + 4 * ρ 1 ^ 2 * ρ 2 ^ 3 * ρ 4 ^ 2 + ρ 1 ^ 2 * ρ 2 ^ 2 * ρ 3 ^ 2 * ρ 4 := by
    simp only [X0, Ex.nrm, Int.natAbs_neg, Int.natAbs_one, Int.reduceNeg]
    grind
  rw [e, h]
  exact Nat.le_add_right _ _
def X1 : Ex := .add (.add (.add (.add (.add (.mul (.mul (.mul (.mul (.mul (.k (144)) (.v 1)) (.v 1)) (.v 2)) (.v 4)) (.v 4)) (.mul (.mul (.mul (.mul (.mul (.k (-6)) (.v 1)) (.v 1)) (.v 3)) (.v 3)) (.v 4))) (.mul (.mul (.mul (.mul (.mul (.k (-80)) (.v 1)) (.v 2)) (.v 2)) (.v 3)) (.v 4))) (.mul (.mul (.mul (.mul (.mul (.k (18)) (.v 1)) (.v 2)) (.v 3)) (.v 3)) (.v 3))) (.mul (.mul (.mul (.mul (.mul (.k (16)) (.v 2)) (.v 2)) (.v 2)) (.v 2)) (.v 4))) (.mul (.mul (.mul (.mul (.mul (.k (-4)) (.v 2)) (.v 2)) (.v 2)) (.v 3)) (.v 3))
theorem q1 (p1 p2 p3 p4 : Nat) : 3 * ((p1 + p2 + p3 + p4) ^ 2 * (1 * p1 + 2 * p2 + 3 * p3 + 4 * p4) ^ 4) = (144 * p1 ^ 2 * p2 * p4 ^ 3 + 6 * p1 ^ 2 * p3 ^ 2 * p4 ^ 2 + 80 * p1 * p2 ^ 2 * p3 * p4 ^ 2 + 18 * p1 * p2 * p3 ^ 3 * p4 + 16 * p2 ^ 4 * p4 ^ 2 + 4 * p2 ^ 3 * p3 ^ 2 * p4) + (3 * p1 ^ 6 + 30 * p1 ^ 5 * p2 + 42 * p1 ^ 5 * p3 + 54 * p1 ^ 5 * p4 + 123 * p1 ^ 4 * p2 ^ 2 + 342 * p1 ^ 4 * p2 * p3 + 438 * p1 ^ 4 * p2 * p4 + 237 * p1 ^ 4 * p3 ^ 2 + 606 * p1 ^ 4 * p3 * p4 + 387 * p1 ^ 4 * p4 ^ 2 + 264 * p1 ^ 3 * p2 ^ 3 + 1092 * p1 ^ 3 * p2 ^ 2 * p3 + 1392 * p1 ^ 3 * p2 ^ 2 * p4 + 1500 * p1 ^ 3 * p2 * p3 ^ 2 + 3816 * p1 ^ 3 * p2 * p3 * p4 + 2424 * p1 ^ 3 * p2 * p4 ^ 2 + 684 * p1 ^ 3 * p3 ^ 3 + 2604 * p1 ^ 3 * p3 ^ 2 * p4 + 3300 * p1 ^ 3 * p3 * p4 ^ 2 + 1392 * p1 ^ 3 * p4 ^ 3 + 312 * p1 ^ 2 * p2 ^ 4 + 1704 * p1 ^ 2 * p2 ^ 3 * p3 + 2160 * p1 ^ 2 * p2 ^ 3 * p4 + 3474 * p1 ^ 2 * p2 ^ 2 * p3 ^ 2 + 8784 * p1 ^ 2 * p2 ^ 2 * p3 * p4 + 5544 * p1 ^ 2 * p2 ^ 2 * p4 ^ 2 + 3132 * p1 ^ 2 * p2 * p3 ^ 3 + 11844 * p1 ^ 2 * p2 * p3 ^ 2 * p4 + 14904 * p1 ^ 2 * p2 * p3 * p4 ^ 2 + 6096 * p1 ^ 2 * p2 * p4 ^ 3 + 1053 * p1 ^ 2 * p3 ^ 4 + 5292 * p1 ^ 2 * p3 ^ 3 * p4 + 9948 * p1 ^ 2 * p3 ^ 2 * p4 ^ 2 + 8304 * p1 ^ 2 * p3 * p4 ^ 3 + 2592 * p1 ^ 2 * p4 ^ 4 + 192 * p1 * p2 ^ 5 + 1296 * p1 * p2 ^ 4 * p3 + 1632 * p1 * p2 ^ 4 * p4 + 3480 * p1 * p2 ^ 3 * p3 ^ 2 + 8736 * p1 * p2 ^ 3 * p3 * p4 + 5472 * p1 * p2 ^ 3 * p4 ^ 2 + 4644 * p1 * p2 ^ 2 * p3 ^ 3 + 17424 * p1 * p2 ^ 2 * p3 ^ 2 * p4 + 21664 * p1 * p2 ^ 2 * p3 * p4 ^ 2 + 9024 * p1 * p2 ^ 2 * p4 ^ 3 + 3078 * p1 * p2 * p3 ^ 4 + 15318 * p1 * p2 * p3 ^ 3 * p4 + 28584 * p1 * p2 * p3 ^ 2 * p4 ^ 2 + 23616 * p1 * p2 * p3 * p4 ^ 3 + 7296 * p1 * p2 * p4 ^ 4 + 810 * p1 * p3 ^ 5 + 5022 * p1 * p3 ^ 4 * p4 + 12420 * p1 * p3 ^ 3 * p4 ^ 2 + 15312 * p1 * p3 ^ 2 * p4 ^ 3 + 9408 * p1 * p3 * p4 ^ 4 + 2304 * p1 * p4 ^ 5 + 48 * p2 ^ 6 + 384 * p2 ^ 5 * p3 + 480 * p2 ^ 5 * p4 + 1272 * p2 ^ 4 * p3 ^ 2 + 3168 * p2 ^ 4 * p3 * p4 + 1952 * p2 ^ 4 * p4 ^ 2 + 2232 * p2 ^ 3 * p3 ^ 3 + 8300 * p2 ^ 3 * p3 ^ 2 * p4 + 10272 * p2 ^ 3 * p3 * p4 ^ 2 + 4224 * p2 ^ 3 * p4 ^ 3 + 2187 * p2 ^ 2 * p3 ^ 4 + 10800 * p2 ^ 2 * p3 ^ 3 * p4 + 19944 * p2 ^ 2 * p3 ^ 2 * p4 ^ 2 + 16320 * p2 ^ 2 * p3 * p4 ^ 3 + 4992 * p2 ^ 2 * p4 ^ 4 + 1134 * p2 * p3 ^ 5 + 6966 * p2 * p3 ^ 4 * p4 + 17064 * p2 * p3 ^ 3 * p4 ^ 2 + 20832 * p2 * p3 ^ 2 * p4 ^ 3 + 12672 * p2 * p3 * p4 ^ 4 + 3072 * p2 * p4 ^ 5 + 243 * p3 ^ 6 + 1782 * p3 ^ 5 * p4 + 5427 * p3 ^ 4 * p4 ^ 2 + 8784 * p3 ^ 3 * p4 ^ 3 + 7968 * p3 ^ 2 * p4 ^ 4 + 3840 * p3 * p4 ^ 5 + 768 * p4 ^ 6) := by grind
theorem X1_nrm (ρ : Nat → Nat) : ρ 4 * X1.nrm ρ ≤ 3 * ((ρ 1 + ρ 2 + ρ 3 + ρ 4) ^ 2 * (1 * ρ 1 + 2 * ρ 2 + 3 * ρ 3 + 4 * ρ 4) ^ 4) := by
  have h := q1 (ρ 1) (ρ 2) (ρ 3) (ρ 4)
  have e : ρ 4 * X1.nrm ρ = 144 * ρ 1 ^ 2 * ρ 2 * ρ 4 ^ 3 + 6 * ρ 1 ^ 2 * ρ 3 ^ 2 * ρ 4 ^ 2 + 80 * ρ 1 * ρ 2 ^ 2 * ρ 3 * ρ 4 ^ 2 + 18 * ρ 1 * ρ 2 * ρ 3 ^ 3 * ρ 4 + 16 * ρ 2 ^ 4 * ρ 4 ^ 2 + 4 * ρ 2 ^ 3 * ρ 3 ^ 2 * ρ 4 := by
    simp only [X1, Ex.nrm, Int.natAbs_neg, Int.natAbs_one, Int.reduceNeg]
    grind
  rw [e, h]
  exact Nat.le_add_right _ _
def X2 : Ex := .add (.add (.add (.mul (.mul (.mul (.mul (.k (-192)) (.v 1)) (.v 3)) (.v 4)) (.v 4)) (.mul (.mul (.mul (.mul (.k (-128)) (.v 2)) (.v 2)) (.v 4)) (.v 4))) (.mul (.mul (.mul (.mul (.k (144)) (.v 2)) (.v 3)) (.v 3)) (.v 4))) (.mul (.mul (.mul (.mul (.k (-27)) (.v 3)) (.v 3)) (.v 3)) (.v 3))
theorem q2 (p1 p2 p3 p4 : Nat) : 3 * ((p1 + p2 + p3 + p4) ^ 1 * (1 * p1 + 2 * p2 + 3 * p3 + 4 * p4) ^ 4) = (192 * p1 * p3 * p4 ^ 3 + 128 * p2 ^ 2 * p4 ^ 3 + 144 * p2 * p3 ^ 2 * p4 ^ 2 + 27 * p3 ^ 4 * p4) + (3 * p1 ^ 5 + 27 * p1 ^ 4 * p2 + 39 * p1 ^ 4 * p3 + 51 * p1 ^ 4 * p4 + 96 * p1 ^ 3 * p2 ^ 2 + 276 * p1 ^ 3 * p2 * p3 + 360 * p1 ^ 3 * p2 * p4 + 198 * p1 ^ 3 * p3 ^ 2 + 516 * p1 ^ 3 * p3 * p4 + 336 * p1 ^ 3 * p4 ^ 2 + 168 * p1 ^ 2 * p2 ^ 3 + 720 * p1 ^ 2 * p2 ^ 2 * p3 + 936 * p1 ^ 2 * p2 ^ 2 * p4 + 1026 * p1 ^ 2 * p2 * p3 ^ 2 + 2664 * p1 ^ 2 * p2 * p3 * p4 + 1728 * p1 ^ 2 * p2 * p4 ^ 2 + 486 * p1 ^ 2 * p3 ^ 3 + 1890 * p1 ^ 2 * p3 ^ 2 * p4 + 2448 * p1 ^ 2 * p3 * p4 ^ 2 + 1056 * p1 ^ 2 * p4 ^ 3 + 144 * p1 * p2 ^ 4 + 816 * p1 * p2 ^ 3 * p3 + 1056 * p1 * p2 ^ 3 * p4 + 1728 * p1 * p2 ^ 2 * p3 ^ 2 + 4464 * p1 * p2 ^ 2 * p3 * p4 + 2880 * p1 * p2 ^ 2 * p4 ^ 2 + 1620 * p1 * p2 * p3 ^ 3 + 6264 * p1 * p2 * p3 ^ 2 * p4 + 8064 * p1 * p2 * p3 * p4 ^ 2 + 3456 * p1 * p2 * p4 ^ 3 + 567 * p1 * p3 ^ 4 + 2916 * p1 * p3 ^ 3 * p4 + 5616 * p1 * p3 ^ 2 * p4 ^ 2 + 4608 * p1 * p3 * p4 ^ 3 + 1536 * p1 * p4 ^ 4 + 48 * p2 ^ 5 + 336 * p2 ^ 4 * p3 + 432 * p2 ^ 4 * p4 + 936 * p2 ^ 3 * p3 ^ 2 + 2400 * p2 ^ 3 * p3 * p4 + 1536 * p2 ^ 3 * p4 ^ 2 + 1296 * p2 ^ 2 * p3 ^ 3 + 4968 * p2 ^ 2 * p3 ^ 2 * p4 + 6336 * p2 ^ 2 * p3 * p4 ^ 2 + 2560 * p2 ^ 2 * p4 ^ 3 + 891 * p2 * p3 ^ 4 + 4536 * p2 * p3 ^ 3 * p4 + 8496 * p2 * p3 ^ 2 * p4 ^ 2 + 7296 * p2 * p3 * p4 ^ 3 + 2304 * p2 * p4 ^ 4 + 243 * p3 ^ 5 + 1512 * p3 ^ 4 * p4 + 3888 * p3 ^ 3 * p4 ^ 2 + 4896 * p3 ^ 2 * p4 ^ 3 + 3072 * p3 * p4 ^ 4 + 768 * p4 ^ 5) := by grind
theorem X2_nrm (ρ : Nat → Nat) : ρ 4 * X2.nrm ρ ≤ 3 * ((ρ 1 + ρ 2 + ρ 3 + ρ 4) ^ 1 * (1 * ρ 1 + 2 * ρ 2 + 3 * ρ 3 + 4 * ρ 4) ^ 4) := by
  have h := q2 (ρ 1) (ρ 2) (ρ 3) (ρ 4)
  have e : ρ 4 * X2.nrm ρ = 192 * ρ 1 * ρ 3 * ρ 4 ^ 3 + 128 * ρ 2 ^ 2 * ρ 4 ^ 3 + 144 * ρ 2 * ρ 3 ^ 2 * ρ 4 ^ 2 + 27 * ρ 3 ^ 4 * ρ 4 := by
    simp only [X2, Ex.nrm, Int.natAbs_neg, Int.natAbs_one, Int.reduceNeg]
    grind
  rw [e, h]
  exact Nat.le_add_right _ _
def X3 : Ex := .mul (.mul (.mul (.k (256)) (.v 4)) (.v 4)) (.v 4)
theorem q3 (p1 p2 p3 p4 : Nat) : 1 * ((p1 + p2 + p3 + p4) ^ 0 * (1 * p1 + 2 * p2 + 3 * p3 + 4 * p4) ^ 4) = (256 * p4 ^ 4) + (p1 ^ 4 + 8 * p1 ^ 3 * p2 + 12 * p1 ^ 3 * p3 + 16 * p1 ^ 3 * p4 + 24 * p1 ^ 2 * p2 ^ 2 + 72 * p1 ^ 2 * p2 * p3 + 96 * p1 ^ 2 * p2 * p4 + 54 * p1 ^ 2 * p3 ^ 2 + 144 * p1 ^ 2 * p3 * p4 + 96 * p1 ^ 2 * p4 ^ 2 + 32 * p1 * p2 ^ 3 + 144 * p1 * p2 ^ 2 * p3 + 192 * p1 * p2 ^ 2 * p4 + 216 * p1 * p2 * p3 ^ 2 + 576 * p1 * p2 * p3 * p4 + 384 * p1 * p2 * p4 ^ 2 + 108 * p1 * p3 ^ 3 + 432 * p1 * p3 ^ 2 * p4 + 576 * p1 * p3 * p4 ^ 2 + 256 * p1 * p4 ^ 3 + 16 * p2 ^ 4 + 96 * p2 ^ 3 * p3 + 128 * p2 ^ 3 * p4 + 216 * p2 ^ 2 * p3 ^ 2 + 576 * p2 ^ 2 * p3 * p4 + 384 * p2 ^ 2 * p4 ^ 2 + 216 * p2 * p3 ^ 3 + 864 * p2 * p3 ^ 2 * p4 + 1152 * p2 * p3 * p4 ^ 2 + 512 * p2 * p4 ^ 3 + 81 * p3 ^ 4 + 432 * p3 ^ 3 * p4 + 864 * p3 ^ 2 * p4 ^ 2 + 768 * p3 * p4 ^ 3) := by grind
theorem X3_nrm (ρ : Nat → Nat) : ρ 4 * X3.nrm ρ ≤ 1 * ((ρ 1 + ρ 2 + ρ 3 + ρ 4) ^ 0 * (1 * ρ 1 + 2 * ρ 2 + 3 * ρ 3 + 4 * ρ 4) ^ 4) := by
  have h := q3 (ρ 1) (ρ 2) (ρ 3) (ρ 4)
  have e : ρ 4 * X3.nrm ρ = 256 * ρ 4 ^ 4 := by
    simp only [X3, Ex.nrm, Int.natAbs_neg, Int.natAbs_one, Int.reduceNeg]
    grind
  rw [e, h]
  exact Nat.le_add_right _ _
def DE4 : Ex := .add (.mul (.mul (.v 0) (.mul (.v 0) (.v 0))) X3) (.add (.mul (.mul (.v 0) (.v 0)) X2) (.add (.mul (.v 0) X1) X0))
theorem DE4_int (ρ : Nat → Int) : DE4.int ρ = D4 (ρ 4) (ρ 3) (ρ 2) (ρ 1) (ρ 0) := by
  simp only [DE4, X0, X1, X2, X3, Ex.int, D4]
  grind
theorem DE4_nrm (ρ : Nat → Nat) : ρ 4 * DE4.nrm ρ ≤ (ρ 0 + ρ 1 + ρ 2 + ρ 3 + ρ 4) ^ 3 * (1 * ρ 1 + 2 * ρ 2 + 3 * ρ 3 + 4 * ρ 4) ^ 4 := by
  have h0 := X0_nrm ρ
  have h1 := Nat.mul_le_mul_left (ρ 0) (X1_nrm ρ)
  have h2 := Nat.mul_le_mul_left (ρ 0 * ρ 0) (X2_nrm ρ)
  have h3 := Nat.mul_le_mul_left (ρ 0 * (ρ 0 * ρ 0)) (X3_nrm ρ)
  show ρ 4 * (ρ 0 * (ρ 0 * ρ 0) * X3.nrm ρ + (ρ 0 * ρ 0 * X2.nrm ρ + (ρ 0 * X1.nrm ρ + X0.nrm ρ))) ≤ _
  have e : (ρ 0 + ρ 1 + ρ 2 + ρ 3 + ρ 4) = (ρ 1 + ρ 2 + ρ 3 + ρ 4) + ρ 0 := by omega
  rw [e]
  generalize ρ 1 + ρ 2 + ρ 3 + ρ 4 = S at *
  generalize (1 * ρ 1 + 2 * ρ 2 + 3 * ρ 3 + 4 * ρ 4) ^ 4 = M at *
  generalize X0.nrm ρ = x0 at *
  generalize X1.nrm ρ = x1 at *
  generalize X2.nrm ρ = x2 at *
  generalize X3.nrm ρ = x3 at *
  generalize ρ 0 = E at *
  generalize ρ 4 = A at *
  have r : (S + E) ^ 3 * M = 1 * (S ^ 3 * M) + (E * (3 * (S ^ 2 * M)) + (E * E * (3 * (S ^ 1 * M)) + E * (E * E) * (1 * (S ^ 0 * M)))) := by grind
  have l : A * (E * (E * E) * x3 + (E * E * x2 + (E * x1 + x0))) = A * x0 + (E * (A * x1) + (E * E * (A * x2) + E * (E * E) * (A * x3))) := by grind
  rw [l, r]
  exact Nat.add_le_add h0 (Nat.add_le_add h1 (Nat.add_le_add h2 h3))
end K27

set_option Elab.async false
set_option linter.all false
set_option maxRecDepth 100000
set_option maxHeartbeats 8000000
local macro_rules | `(tactic| walk_at "rd") => `(tactic| dsimp only [Evl.tCut, L2.tSeq, L2.tNext, L2.tRet, L2.tRetN, L2.tAsg, L2.gName, L2.tIfS, L2.tDrop, L2.tCons, L2.tNil, L2.tC, L2.tVar, L2.tCB, L2.tAndV, L2.tOrV, L2.tNotV, L2.tB, L2.tTest, L2.tOp, L2.tUn, L2.tNot, L2.tAnd, L2.tOr, L2.tIf, L2.tCall, L2.tTup, L2.tLst, L2.tNotT, L2.tYes, L2.gTup, L2.gCons, L2.gNil, L2.gSub, L2.tBM0, L2.tBM, L2.tWhile, L2.tFor, L2.iRng1, L2.iRng2, L2.tAugS, Tw.iEnumT, L2.tCKw, L2.tAug, L2.ipI, RT.iRevA, L2.iRevR, L2.tPar, L2.tPar3, L2.tSl, L2.tNoPart, L2.tPart, Tw.tRevT, L2.rAdd, L2.rSub, L2.tBits])
namespace K27
open PySem PySem.Spec PyProof.Rows L2 Tw
/-! the resultant -/
def spWRes : Sp := fun vs H Q _ => ∃ (u v : V) (one other : List Int) (W : Nat) (fd : List (List Int)) (s : Int), vs = [u, v] ∧ Ro H u one ∧ Ro H v other ∧ 2 ≤ one.length ∧ one.length ≤ 6 ∧ other.length + 1 = one.length ∧ WdA W one ∧ WdA W other ∧ 10 ≤ W ∧ W * 5 ^ (one.length - 2) ≤ 490000 ∧
  srGo 5 (one.length - 1) ((List.replicate (one.length - 1) [] ++ [one]).set (one.length - 2) other) one other 1 1 = some fd ∧ 1 ≤ fd.length ∧ fd.getD 0 [] = trimI [s] ∧
  ∀ H', Same H H' → Q (.int (if (one.length - 1) * (one.length - 1 - 1) / 2 % 2 = 0 then s else -s)) H'
section
variable {P : Program} {w : World} {K : PySem.W.Frag} {mg : Str → Option Value} {base : Heap}
theorem scWRes : FnScope ["one", "other", "n", "m", "found", "rest", "first", "two", "last"] ["one", "other"] (defScope sWRes) := ⟨rfl, rfl, rfl, by decide +kernel, rfl, by decide +kernel, by decide +kernel⟩
theorem ok_wres (D : Def K mg "whole_resultant" sWRes ["one", "other"]) (nb : Nb mg) (cs : Cal P w K mg base "subresultants" 34 ["one", "other"] spSubres) : Cal P w K mg base "whole_resultant" 35 ["one", "other"] spWRes := by
  refine D.ok scWRes (fun vs H Q E h => ?_) (fun f cdv A out s H vs Q E hr h => ?_)
  · obtain ⟨u, v, one, other, W, fd, s, rfl, _⟩ := h; rfl
  obtain ⟨u, v, one, other, W, fd, sv, rfl, hu, hv, l2, l6, lo, w1, w2, W10, hW, hgo, lfd, hfd, q⟩ := h
  refine ⟨_, Evl.pss_cut (ps_par (i := 2) (j := 3) rfl scWRes.nd rfl rfl (by decide) rfl rfl (pa_cons (pe_op op_sub (pe_callB (id := "len") (r := rLn K) call_len_seq (by rfl) nb.len PySem.boot_len (pa_cons (pv 0) pa_nil)) pe_int) (pa_cons (pe_op op_sub (pe_callB (id := "len") (r := rLn K) call_len_seq (by rfl) nb.len PySem.boot_len (pa_cons (pv 1) pa_nil)) pe_int) pa_nil)) rfl)
    (Evl.pss_cut (ps_if (pt_cmpR op_lt (pv 2) (pv 3) (nomark _)) pss_dead pss_nil)
    (Evl.pss_cut (ps_if (pt_cmpR op_eq (pv 2) pe_int (nomark _))
      (pss_one (ps_ret pe_int))
      (pss_nil))
    (Evl.pss_cut (ps_if (pt_cmpR op_eq (pv 2) (pv 3) (nomark _)) pss_dead pss_nil)
    (Evl.pss_cut (ps_set (i := 8) scWRes.nd rfl (Or.inl rfl) (pe_ix (r := rIxT K) ix_tup (pe_cal cs hr (by omega) (by rfl) (pa_cons (pv 0) (pa_cons (pv 1) pa_nil))) pe_int (fun _ _ => rfl)))
    (Evl.pss_cut (ps_if (pt_not (pt_truth (pv 8) (fun _ => rfl)))
      (pss_one (ps_ret pe_int))
      (pss_nil))
    (pss_one (ps_ret (pe_ifExp (pt_truth (pe_op op_mod (pe_op op_fdiv (pe_op op_mulW (pv 2) (pe_op op_sub (pv 2) pe_int)) pe_int) pe_int) (by intro _; rfl)) (pe_un un_neg (pe_ix (r := rIxT K) ix_tup (pv 8) pe_int (fun _ _ => rfl))) (pe_ix (r := rIxT K) ix_tup (pv 8) pe_int (fun _ _ => rfl)))))))))), ?_⟩
  walk_at "rd"
  obtain ⟨pu, rfl, eu⟩ := hu
  obtain ⟨pw, rfl, ew⟩ := hv
  obtain ⟨n, hn⟩ : ∃ n, one.length = n + 1 := ⟨one.length - 1, by omega⟩
  rw [show one.length - 1 = n by omega] at q
  have eP : ((n : Int) * ((n : Int) - 1)) = ((n * (n - 1) : Nat) : Int) := by
    rw [show (n : Int) - 1 = ((n - 1 : Nat) : Int) by omega, ← Int.natCast_mul]
  refine ⟨fun σ H' => σ = [some (.ref pu), some (.ref pw), some (.int (n : Int)), some (.int ((n - 1 : Nat) : Int)), none, none, none, none, none] ∧ H' = H, ?_, ?_⟩
  · refine ⟨_, rfl, pu, _, rfl, .inr (SqT.of eu), _, _, rfl, rfl, _, rfl, pw, _, rfl, .inr (SqT.of ew), _, _, rfl, rfl, _, _, rfl, ?_, rfl⟩
    rw [List.length_map, List.length_map]
    show [_, _, some (V.int ((one.length : Int) - 1)), some (V.int ((other.length : Int) - 1)), _, _, _, _, _] = _
    rw [show (one.length : Int) - 1 = (n : Int) by omega, show (other.length : Int) - 1 = ((n - 1 : Nat) : Int) by omega]
  rintro σ1 H1 ⟨rfl, rfl⟩
  refine ⟨fun σ H' => σ = [some (.ref pu), some (.ref pw), some (.int (n : Int)), some (.int ((n - 1 : Nat) : Int)), none, none, none, none, none] ∧ H' = H1, ?_, ?_⟩
  · refine ⟨_, rfl, _, rfl, _, _, rfl, rfl, _, rfl, ite2 (fun c => ?_) (fun c => ⟨rfl, rfl⟩)⟩
    have := of_decide_eq_true c
    omega
  rintro σ2 H2 ⟨rfl, rfl⟩
  refine ⟨fun σ H' => σ = [some (.ref pu), some (.ref pw), some (.int (n : Int)), some (.int ((n - 1 : Nat) : Int)), none, none, none, none, none] ∧ H' = H2, ?_, ?_⟩
  · refine ⟨_, rfl, rfl, _, rfl, ite2 (fun c => ?_) (fun c => ⟨rfl, rfl⟩)⟩
    have c := of_decide_eq_true c
    injection c with c
    omega
  rintro σ3 H3 ⟨rfl, rfl⟩
  refine ⟨fun σ H' => σ = [some (.ref pu), some (.ref pw), some (.int (n : Int)), some (.int ((n - 1 : Nat) : Int)), none, none, none, none, none] ∧ H' = H3, ?_, ?_⟩
  · refine ⟨_, rfl, _, rfl, rfl, _, rfl, ite2 (fun c => ?_) (fun c => ⟨rfl, rfl⟩)⟩
    have c := of_decide_eq_true c
    injection c with c
    omega
  rintro σ4 H4 ⟨rfl, rfl⟩
  refine ⟨fun σ H' => ∃ p8, σ = [some (.ref pu), some (.ref pw), some (.int (n : Int)), some (.int ((n - 1 : Nat) : Int)), none, none, none, none, some (.ref p8)] ∧ Same H4 H' ∧ H' p8 = some (.tup ((trimI [sv]).map V.int)), ?_, ?_⟩
  · refine ⟨_, rfl, _, rfl, _, _, one, other, W, fd, rfl, ⟨pu, rfl, eu⟩, ⟨pw, rfl, ew⟩, l2, l6, lo, w1, w2, W10, hW, hgo, fun z H5 s5 hz => ?_⟩
    obtain ⟨pz, xs, rfl, ez, rz⟩ := hz
    obtain ⟨v0, ev0, rv0⟩ := rz.get (k := 0) (by omega)
    obtain ⟨p8, rfl, e8⟩ := rv0
    refine ⟨pz, xs, 0, _, rfl, rfl, SqT.of ez, atI_nat ev0, p8, rfl, s5, ?_⟩
    rw [e8]
    have : fd.getD 0 [] = fd[0] := by rw [List.getD_eq_getElem?_getD, List.getElem?_eq_getElem (by omega)]; rfl
    rw [← this, hfd]
  rintro σ5 H5 ⟨p8, rfl, s5, e8⟩
  by_cases c : sv = 0
  · subst c
    rw [trim_z1] at e8
    refine ⟨fun _ _ => False, ?_, fun _ _ h => h.elim⟩
    refine ⟨_, rfl, _, .inr (.inl ⟨_, SqT.of e8, rfl⟩), ?_⟩
    show Q (V.int 0) H5
    have := q H5 s5
    simpa using this
  rw [trim_one c] at e8
  refine ⟨fun σ H' => σ = [some (.ref pu), some (.ref pw), some (.int (n : Int)), some (.int ((n - 1 : Nat) : Int)), none, none, none, none, some (.ref p8)] ∧ H' = H5, ?_, ?_⟩
  · exact ⟨_, rfl, _, .inr (.inl ⟨_, SqT.of e8, rfl⟩), rfl, rfl⟩
  rintro σ6 H6 ⟨rfl, rfl⟩
  refine ⟨_, rfl, _, rfl, _, _, rfl, rfl, _, _, rfl, rfl, ?_, ?_⟩
  · exact Wd.cm (n := 10) (m := 10) (show ((n : Int)).natAbs < 2 ^ 10 by omega) (show ((n : Int) - 1).natAbs < 2 ^ 10 by omega) (by decide)
  dsimp only
  rw [eP]
  generalize hp : n * (n - 1) = pp at q ⊢
  refine ⟨_, _, rfl, rfl, ⟨by decide, by decide⟩, _, _, rfl, rfl, (by show (0 : Int) < 2; decide), _, rfl, ?_⟩
  have em : ((pp : Int) / 2 % 2 != 0) = !decide (pp / 2 % 2 = 0) := by
    by_cases z : pp / 2 % 2 = 0
    · rw [decide_eq_true z, show (pp : Int) / 2 % 2 = 0 by omega]; rfl
    · rw [decide_eq_false z]; exact bne_iff_ne.mpr (by omega)
  rw [em]
  have q6 := q H6 s5
  by_cases z : pp / 2 % 2 = 0
  · rw [decide_eq_true z]
    rw [if_pos z] at q6
    exact iteF ⟨_, rfl, p8, _, 0, _, rfl, rfl, SqT.of e8, rfl, q6⟩
  · rw [decide_eq_false z]
    rw [if_neg z] at q6
    exact iteT ⟨_, rfl, p8, _, 0, _, rfl, rfl, SqT.of e8, rfl, _, rfl, q6⟩
end
end K27

set_option Elab.async false
set_option linter.all false
set_option maxRecDepth 100000
set_option maxHeartbeats 8000000
/-! the resultant of a POLY of degree 1 to 4 and its derivative, as a row -/
namespace K27
def DEn : Nat → Ex
  | 1 => DE1
  | 2 => DE2
  | 3 => DE3
  | _ => DE4
def sgn (n : Nat) : Int := if n * (n - 1) / 2 % 2 = 0 then 1 else -1
/-- the discriminant -/
def discR (n : Nat) (p : List (List Int)) : List Int := trimI ((DEn n).row (rw' p))
def resR (n : Nat) (p : List (List Int)) : List Int := trimI (sclR (sgn n) (mulR (rw' p n) ((DEn n).row (rw' p))))
theorem sgn_abs (n : Nat) : (sgn n).natAbs = 1 := by unfold sgn; split <;> rfl
theorem ev_resR (x : Int) (n : Nat) (p : List (List Int)) : ev x (resR n p) = sgn n * (ev x (rw' p n) * (DEn n).int fun i => ev x (rw' p i)) := by
  unfold resR
  rw [ev_trim, ev_scl, ev_mul, Ex.ev]
theorem ev_discR (x : Int) (n : Nat) (p : List (List Int)) : ev x (discR n p) = (DEn n).int fun i => ev x (rw' p i) := by
  unfold discR
  rw [ev_trim, Ex.ev]
/-- the sums of sizes of a POLY and of its derivative -/
def szA (n : Nat) (ρ : Nat → Nat) : Nat := match n with
  | 0 => ρ 0
  | n + 1 => szA n ρ + ρ (n + 1)
def szB (n : Nat) (ρ : Nat → Nat) : Nat := match n with
  | 0 => 0
  | n + 1 => szB n ρ + (n + 1) * ρ (n + 1)
theorem DEn_nrm {n : Nat} (h1 : 1 ≤ n) (h4 : n ≤ 4) (ρ : Nat → Nat) : ρ n * (DEn n).nrm ρ ≤ szA n ρ ^ (n - 1) * szB n ρ ^ n := by
  match n, h1, h4 with
  | 1, _, _ => simpa [DEn, szA, szB] using DE1_nrm ρ
  | 2, _, _ => simpa [DEn, szA, szB] using DE2_nrm ρ
  | 3, _, _ => simpa [DEn, szA, szB] using DE3_nrm ρ
  | 4, _, _ => simpa [DEn, szA, szB] using DE4_nrm ρ
theorem nm_resR {n : Nat} (h1 : 1 ≤ n) (h4 : n ≤ 4) (p : List (List Int)) : nm (resR n p) ≤ szA n (fun i => nm (rw' p i)) ^ (n - 1) * szB n (fun i => nm (rw' p i)) ^ n := by
  refine Nat.le_trans (nm_trim _) ?_
  rw [nm_scl, sgn_abs, Nat.one_mul]
  refine Nat.le_trans (nm_mul _ _) (Nat.le_trans (Nat.mul_le_mul_left _ (Ex.nm _ _)) ?_)
  exact DEn_nrm h1 h4 fun i => nm (rw' p i)
/-- the chain tells the head times the discriminant -/
theorem srn {n : Nat} (h1 : 1 ≤ n) (h4 : n ≤ 4) {F G : List Int} (lF : F.length = n + 1) (lG : G.length = n) (hG : ∀ i, i < n → g G i = ((i + 1 : Nat) : Int) * g F (i + 1)) (ha : g F n ≠ 0) :
    ∃ fd, srGo 5 n ((List.replicate n [] ++ [F]).set (n - 1) G) F G 1 1 = some fd ∧ fd.length = n + 1 ∧ fd.getD 0 [] = trimI [g F n * (DEn n).int (g F)] := by
  match n, h1, h4, F, G, lF, lG with
  | 1, _, _, [b, a], [x], _, _ =>
    have e : x = a := by have := hG 0 (by decide); simpa [g] using this
    subst e
    have := sr1 (a := x) ha (b := b) (upper := [b, x])
    show ∃ fd, srGo 5 1 [[x], [b, x]] [b, x] [x] 1 1 = some fd ∧ fd.length = 1 + 1 ∧ fd.getD 0 [] = trimI [x * DE1.int (g [b, x])]
    rw [DE1_int]
    exact this
  | 2, _, _, [c, b, a], [x, y], _, _ =>
    have e0 : x = b := by have := hG 0 (by decide); simpa [g] using this
    have e1 : y = 2 * a := by have := hG 1 (by decide); simpa [g] using this
    subst e0 e1
    have := sr2 (a := a) (b := x) (c := c) ha
    show ∃ fd, srGo 5 2 [[], [x, 2 * a], [c, x, a]] [c, x, a] [x, 2 * a] 1 1 = some fd ∧ fd.length = 2 + 1 ∧ fd.getD 0 [] = trimI [a * DE2.int (g [c, x, a])]
    rw [DE2_int]
    exact this
  | 3, _, _, [d, c, b, a], [x, y, z], _, _ =>
    have e0 : x = c := by have := hG 0 (by decide); simpa [g] using this
    have e1 : y = 2 * b := by have := hG 1 (by decide); simpa [g] using this
    have e2 : z = 3 * a := by have := hG 2 (by decide); simpa [g] using this
    subst e0 e1 e2
    have := sr3 (a := a) (b := b) (c := x) (d := d) ha
    show ∃ fd, srGo 5 3 [[], [], [x, 2 * b, 3 * a], [d, x, b, a]] [d, x, b, a] [x, 2 * b, 3 * a] 1 1 = some fd ∧ fd.length = 3 + 1 ∧ fd.getD 0 [] = trimI [a * DE3.int (g [d, x, b, a])]
    rw [DE3_int]
    exact this
  | 4, _, _, [e, d, c, b, a], [x, y, z, t], _, _ =>
    have e0 : x = d := by have := hG 0 (by decide); simpa [g] using this
    have e1 : y = 2 * c := by have := hG 1 (by decide); simpa [g] using this
    have e2 : z = 3 * b := by have := hG 2 (by decide); simpa [g] using this
    have e3 : t = 4 * a := by have := hG 3 (by decide); simpa [g] using this
    subst e0 e1 e2 e3
    have := sr4 (a := a) (b := b) (c := c) (d := x) (e := e) ha
    show ∃ fd, srGo 5 4 [[], [], [], [x, 2 * c, 3 * b, 4 * a], [e, x, c, b, a]] [e, x, c, b, a] [x, 2 * c, 3 * b, 4 * a] 1 1 = some fd ∧ fd.length = 4 + 1 ∧ fd.getD 0 [] = trimI [a * DE4.int (g [e, x, c, b, a])]
    rw [DE4_int]
    exact this
/-! how long rows are -/
theorem add_len : ∀ r s : List Int, (addR r s).length ≤ max r.length s.length
  | [], s => by rw [addR]; simp
  | a :: r, [] => by rw [addR_nil]; simp
  | a :: r, b :: s => by
    have := add_len r s
    rw [addR, List.length_cons, List.length_cons, List.length_cons]
    omega
theorem mul_len : ∀ r s : List Int, (mulR r s).length ≤ r.length + s.length
  | [], s => by rw [mulR]; simp
  | a :: r, s => by
    have h1 := mul_len r s
    have h2 := add_len (sclR a s) (0 :: mulR r s)
    have h3 : (sclR a s).length = s.length := by unfold sclR; rw [List.length_map]
    rw [mulR]
    simp only [List.length_cons] at h2 ⊢
    omega
def Ex.len (L : Nat) : Ex → Nat
  | .v _ => L
  | .k _ => 1
  | .add a b => max (a.len L) (b.len L)
  | .mul a b => a.len L + b.len L
theorem Ex.row_len {L : Nat} {ρ : Nat → List Int} (h : ∀ i, (ρ i).length ≤ L) : ∀ e : Ex, (e.row ρ).length ≤ e.len L
  | .v i => h i
  | .k c => Nat.le_refl 1
  | .add a b => Nat.le_trans (add_len _ _) (by have := Ex.row_len h a; have := Ex.row_len h b; rw [Ex.len]; omega)
  | .mul a b => Nat.le_trans (mul_len _ _) (by have := Ex.row_len h a; have := Ex.row_len h b; rw [Ex.len]; omega)
theorem DEn_len {n : Nat} (h1 : 1 ≤ n) (h4 : n ≤ 4) : (DEn n).len 8 ≤ 100 := by
  match n, h1, h4 with
  | 1, _, _ => decide +kernel
  | 2, _, _ => decide +kernel
  | 3, _, _ => decide +kernel
  | 4, _, _ => decide +kernel
theorem trim_len (r : List Int) : (trimI r).length ≤ r.length := trimBy_len _ r
theorem rw_len {p : List (List Int)} {L : Nat} (h : ∀ r ∈ p, r.length ≤ L) (i : Nat) : (rw' p i).length ≤ L := by
  rcases Nat.lt_or_ge i p.length with c | c
  · rw [rw_some c]; exact h _ (List.getElem_mem _)
  · rw [rw_none c]; exact Nat.zero_le _
theorem resR_len {n : Nat} (h1 : 1 ≤ n) (h4 : n ≤ 4) {p : List (List Int)} (h : ∀ r ∈ p, r.length ≤ 8) : (resR n p).length ≤ 1000 := by
  have a := Ex.row_len (rw_len h) (DEn n)
  have b := DEn_len h1 h4
  have c := mul_len (rw' p n) ((DEn n).row (rw' p))
  have d := rw_len h n
  have e := trim_len (sclR (sgn n) (mulR (rw' p n) ((DEn n).row (rw' p))))
  have f : (sclR (sgn n) (mulR (rw' p n) ((DEn n).row (rw' p)))).length = (mulR (rw' p n) ((DEn n).row (rw' p))).length := by unfold sclR; rw [List.length_map]
  unfold resR
  omega
/-! sums of sizes -/
theorem szA_sum : ∀ (n : Nat) (p : List (List Int)), p.length = n + 1 → sumN p = szA n fun i => nm (rw' p i)
  | 0, [r], _ => by unfold sumN szA; simp [rw']
  | n + 1, p, h => by
    obtain ⟨q, r, rfl⟩ : ∃ q r, p = q ++ [r] := ⟨p.dropLast, p.getLast (fun z => by rw [z] at h; cases h), (List.dropLast_concat_getLast _).symm⟩
    have lq : q.length = n + 1 := by simpa using h
    have ih := szA_sum n q lq
    have e1 : sumN (q ++ [r]) = sumN q + nm r := by unfold sumN; rw [List.map_append, List.sum_append]; simp
    have ext : ∀ m, m ≤ n → szA m (fun i => nm (rw' (q ++ [r]) i)) = szA m fun i => nm (rw' q i) := fun m hm => by
      induction m with
      | zero => show nm (rw' (q ++ [r]) 0) = nm (rw' q 0); rw [rw_some (by simp), rw_some (by omega), List.getElem_append_left (by omega)]
      | succ m ih2 =>
        rw [szA, szA, ih2 (by omega), rw_some (by simp; omega), rw_some (by omega), List.getElem_append_left (by omega)]
    rw [e1, ih, szA, ext n (Nat.le_refl _)]
    congr 1
    rw [rw_some (by simp; omega), List.getElem_append_right (by omega)]
    simp [lq]
/-- q is the derivative of p -/
def IsDer (n : Nat) (p q : List (List Int)) : Prop := q.length = n ∧ ∀ i, i < n → rw' q i = sclR ((i + 1 : Nat) : Int) (rw' p (i + 1))
theorem szB_sum : ∀ (n : Nat) (p q : List (List Int)), IsDer n p q → sumN q = szB n fun i => nm (rw' p i)
  | 0, p, q, h => by
    have : q = [] := List.length_eq_zero_iff.mp h.1
    subst this
    rfl
  | n + 1, p, q, h => by
    obtain ⟨lq, hq⟩ := h
    obtain ⟨t, r, rfl⟩ : ∃ t r, q = t ++ [r] := ⟨q.dropLast, q.getLast (fun z => by rw [z] at lq; cases lq), (List.dropLast_concat_getLast _).symm⟩
    have lt : t.length = n := by simpa using lq
    have ih := szB_sum n p t ⟨lt, fun i hi => by
      rw [← hq i (by omega), rw_some (by omega), rw_some (by simp; omega), List.getElem_append_left (by omega)]⟩
    have e1 : sumN (t ++ [r]) = sumN t + nm r := by unfold sumN; rw [List.map_append, List.sum_append]; simp
    have er : r = sclR ((n + 1 : Nat) : Int) (rw' p (n + 1)) := by
      rw [← hq n (by omega), rw_some (by simp; omega), List.getElem_append_right (by omega)]
      simp [lt]
    rw [e1, ih, szB, er, nm_scl, Int.natAbs_natCast]
end K27

set_option Elab.async false
set_option linter.all false
set_option maxRecDepth 100000
set_option maxHeartbeats 8000000
local macro_rules | `(tactic| walk_at "rd") => `(tactic| dsimp only [Evl.tCut, L2.tSeq, L2.tNext, L2.tRet, L2.tRetN, L2.tAsg, L2.gName, L2.tIfS, L2.tDrop, L2.tCons, L2.tNil, L2.tC, L2.tVar, L2.tCB, L2.tAndV, L2.tOrV, L2.tNotV, L2.tB, L2.tTest, L2.tOp, L2.tUn, L2.tNot, L2.tAnd, L2.tOr, L2.tIf, L2.tCall, L2.tTup, L2.tLst, L2.tNotT, L2.tYes, L2.gTup, L2.gCons, L2.gNil, L2.gSub, L2.tBM0, L2.tBM, L2.tWhile, L2.tFor, L2.iRng1, L2.iRng2, L2.tAugS, Tw.iEnumT, L2.tCKw, L2.tAug, L2.ipI, RT.iRevA, L2.iRevR, L2.tPar, L2.tPar3, L2.tSl, L2.tNoPart, L2.tPart, Tw.tRevT, L2.rAdd, L2.rSub, L2.tBits])
namespace K27
open PySem PySem.Spec PyProof.Rows L2 Tw
/-! the resultant of a POLY and its derivative -/
def spPRes : Sp := fun vs H Q _ => ∃ (u v : V) (p q : List (List Int)) (n : Nat), vs = [u, v] ∧ Po H u p ∧ Po H v q ∧ okP p ∧ p.length = n + 1 ∧ 1 ≤ n ∧ n ≤ 4 ∧ IsDer n p q ∧ (∀ r ∈ p, r.length ≤ 5) ∧ sumN p < 2 ^ 88 ∧ ∀ z H', Same H H' → Ro H' z (resR n p) → Q z H'
theorem scl_len (c : Int) (r : List Int) : (sclR c r).length = r.length := by unfold sclR; rw [List.length_map]
theorem der_len {n L : Nat} {p q : List (List Int)} (h : IsDer n p q) (hp : ∀ r ∈ p, r.length ≤ L) : ∀ r ∈ q, r.length ≤ L := fun r hr => by
  obtain ⟨i, hi, e⟩ := List.getElem_of_mem hr
  rw [← e, ← rw_some hi, h.2 i (by rw [← h.1]; exact hi), scl_len]
  exact rw_len hp _
theorem szA_ge {n : Nat} {ρ : Nat → Nat} {i : Nat} (h : i ≤ n) : ρ i ≤ szA n ρ := by
  induction n with
  | zero => have : i = 0 := by omega
            subst this; exact Nat.le_refl _
  | succ n ih =>
    rw [szA]
    rcases Nat.lt_or_ge n i with c | c
    · have : i = n + 1 := by omega
      subst this; omega
    · have := ih c; omega
theorem szB_le {n : Nat} {ρ : Nat → Nat} : szB n ρ ≤ n * szA n ρ := by
  induction n with
  | zero => simp [szB]
  | succ n ih =>
    have h0 : szA n ρ ≤ szA (n + 1) ρ := by rw [szA]; omega
    have h1 : ρ (n + 1) ≤ szA (n + 1) ρ := by rw [szA]; omega
    have h2 : (n + 1) * szA (n + 1) ρ = n * szA (n + 1) ρ + szA (n + 1) ρ := by rw [Nat.add_mul, Nat.one_mul]
    have h3 := Nat.mul_le_mul_left n h0
    have h4 : (n + 1) * szA (n + 1) ρ = (n + 1) * szA n ρ + (n + 1) * ρ (n + 1) := by rw [szA, Nat.mul_add]
    have h5 : (n + 1) * szA n ρ = n * szA n ρ + szA n ρ := by rw [Nat.add_mul, Nat.one_mul]
    rw [szB]
    omega
theorem mem_len {p : List (List Int)} {i : Nat} (h : i < p.length) : rw' p i ∈ p := by rw [rw_some h]; exact List.getElem_mem _
theorem g_map_ev (x : Int) (p : List (List Int)) (i : Nat) : g (p.map (ev x)) i = ev x (rw' p i) := by
  rcases Nat.lt_or_ge i p.length with c | c
  · rw [g_some (by rw [List.length_map]; exact c), rw_some c, List.getElem_map]
  · rw [g_none (by rw [List.length_map]; exact c), rw_none c]; rfl
theorem ev_wd2 {b c : Nat} {r : List Int} (h : nm r < 2 ^ c) (l : r.length ≤ 5) : Wd (4 * b + c) (ev (2 ^ b) r) := by
  have h1 := ev_le (2 ^ b) (Nat.pow_pos (by decide)) (n := 4) (r := r) l
  rw [← Nat.pow_mul] at h1
  unfold Wd
  have e : ((2 ^ b : Nat) : Int) = (2 : Int) ^ b := by rw [Int.natCast_pow]; rfl
  rw [e] at h1
  refine Nat.lt_of_le_of_lt h1 ?_
  rw [Nat.pow_add, Nat.mul_comm, Nat.mul_comm b 4]
  exact Nat.mul_lt_mul_of_le_of_lt (Nat.le_refl _) h (Nat.pow_pos (by decide))
theorem one_pow_le {a : Nat} (h : 1 ≤ a) : ∀ {k : Nat}, 1 ≤ k → a ≤ a ^ k
  | 1, _ => by rw [Nat.pow_one]; exact Nat.le_refl _
  | k + 2, _ => by
    have := one_pow_le h (k := k + 1) (by omega)
    rw [Nat.pow_succ]
    exact Nat.le_trans this (Nat.le_mul_of_pos_right _ h)
theorem pow_pos1 {a : Nat} (h : 1 ≤ a) (k : Nat) : 1 ≤ a ^ k := Nat.pow_pos h
/-- all that a POLY and its derivative ask of the numbers of bits -/
theorem res_facts {p q : List (List Int)} {n : Nat} (okp : okP p) (lp : p.length = n + 1) (n1 : 1 ≤ n) (n4 : n ≤ 4) (hd : IsDer n p q) (hN : sumN p < 2 ^ 88) :
    sumN q < 2 ^ 90 ∧ 1 ≤ sumN p ∧ 1 ≤ sumN q ∧ szOf p q < 2 ^ 803 ∧ sumN p ≤ szOf p q ∧ sumN q ≤ szOf p q ∧ nm (resR n p) ≤ szOf p q ∧ okR (rw' p n) ∧ rw' p n ≠ [] := by
  have ne : p ≠ [] := fun z => by rw [z] at lp; cases lp
  obtain ⟨ok1, ne1⟩ := lead_row okp ne
  rw [lp, show n + 1 - 1 = n by omega] at ok1 ne1
  have pos := nm_pos ok1 ne1
  have eA := szA_sum n p lp
  have eB := szB_sum n p q hd
  have h1 : 1 ≤ sumN p := by rw [eA]; exact Nat.le_trans pos (szA_ge (ρ := fun i => nm (rw' p i)) (Nat.le_refl n))
  have h2 : 1 ≤ sumN q := by
    rw [eB]
    obtain ⟨k, rfl⟩ : ∃ k, n = k + 1 := ⟨n - 1, by omega⟩
    rw [szB]
    have := Nat.mul_le_mul (show 1 ≤ k + 1 by omega) pos
    omega
  have h3 : sumN q < 2 ^ 90 := by
    have a := szB_le (n := n) (ρ := fun i => nm (rw' p i))
    rw [← eA, ← eB] at a
    have b := Nat.mul_le_mul_right (sumN p) n4
    have c : (2 : Nat) ^ 90 = 4 * 2 ^ 88 := by decide
    omega
  have sz : szOf p q = sumN p ^ n * sumN q ^ (n + 1) := by unfold szOf; rw [hd.1, lp]
  have h4 : szOf p q < 2 ^ 803 := by
    rw [sz]
    have a : sumN p ^ n ≤ (2 ^ 88) ^ 4 := Nat.le_trans (Nat.pow_le_pow_left (Nat.le_of_lt hN) n) (Nat.pow_le_pow_right (by decide) n4)
    have b : sumN q ^ (n + 1) ≤ (2 ^ 90) ^ 5 := Nat.le_trans (Nat.pow_le_pow_left (Nat.le_of_lt h3) (n + 1)) (Nat.pow_le_pow_right (by decide) (by omega))
    exact Nat.lt_of_le_of_lt (Nat.mul_le_mul a b) (by decide +kernel)
  have h5 : sumN p ≤ szOf p q := by
    rw [sz]
    exact Nat.le_trans (one_pow_le h1 n1) (Nat.le_mul_of_pos_right _ (pow_pos1 h2 _))
  have h6 : sumN q ≤ szOf p q := by
    rw [sz]
    exact Nat.le_trans (one_pow_le h2 (by omega)) (Nat.le_mul_of_pos_left _ (pow_pos1 h1 _))
  have h7 : nm (resR n p) ≤ szOf p q := by
    refine Nat.le_trans (nm_resR n1 n4 p) ?_
    rw [← eA, ← eB, sz]
    exact Nat.mul_le_mul (Nat.pow_le_pow_right h1 (by omega)) (Nat.pow_le_pow_right h2 (by omega))
  exact ⟨h3, h1, h2, h4, h5, h6, h7, ok1, ne1⟩
theorem nm_le_sum {p : List (List Int)} {r : List Int} (h : r ∈ p) : nm r ≤ sumN p := by
  unfold sumN
  induction p with
  | nil => cases h
  | cons a p ih =>
    rw [List.map_cons, List.sum_cons]
    rcases List.mem_cons.mp h with rfl | h
    · omega
    · have := ih h; omega
section
variable {P : Program} {w : World} {K : PySem.W.Frag} {mg : Str → Option Value} {base : Heap}
theorem scPRes : FnScope ["one", "other", "bits"] ["one", "other"] (defScope sPRes) := ⟨rfl, rfl, rfl, by decide +kernel, rfl, by decide +kernel, by decide +kernel⟩
theorem ok_pres (D : Def K mg "poly_resultant" sPRes ["one", "other"]) (cb : Cal P w K mg base "bits_for" 2 ["one", "other"] spBitsFor) (cp : Cal P w K mg base "packed_poly" 2 ["poly", "bits"] spPackedP) (cw : Cal P w K mg base "whole_resultant" 35 ["one", "other"] spWRes)
    (cu : Cal P w K mg base "unpacked" 1 ["value", "bits"] spUnpacked) : Cal P w K mg base "poly_resultant" 36 ["one", "other"] spPRes := by
  refine D.ok scPRes (fun vs H Q E h => ?_) (fun f cdv A out s H vs Q E hr h => ?_)
  · obtain ⟨u, v, p, q, n, rfl, _⟩ := h; rfl
  obtain ⟨u, v, p, q', n, rfl, hu, hv, okp, lp, n1, n4, hd', lr, hN, q⟩ := h
  refine ⟨_, Evl.pss_cut (ps_set (i := 2) scPRes.nd rfl (Or.inl rfl) (pe_cal cb hr (by omega) (by rfl) (pa_cons (pv 0) (pa_cons (pv 1) pa_nil))))
    (pss_one (ps_ret (pe_cal cu hr (by omega) (by rfl) (pa_cons (pe_cal cw hr (by omega) (by rfl) (pa_cons (pe_cal cp hr (by omega) (by rfl) (pa_cons (pv 0) (pa_cons (pv 2) pa_nil))) (pa_cons (pe_cal cp hr (by omega) (by rfl) (pa_cons (pv 1) (pa_cons (pv 2) pa_nil))) pa_nil))) (pa_cons (pv 2) pa_nil))))), ?_⟩
  walk_at "rd"
  obtain ⟨pu, xs, rfl, eu, ru⟩ := hu
  obtain ⟨pw, ys, rfl, ew, rv⟩ := hv
  obtain ⟨h3, h1, h2, h4, h5, h6, h7, ok1, ne1⟩ := res_facts okp lp n1 n4 hd' hN
  have lq := hd'.1
  have lr2 := der_len hd' lr
  refine ⟨fun σ H' => ∃ b : Nat, σ = [some (.ref pu), some (.ref pw), some (.int (b : Int))] ∧ Same H H' ∧ 4 * szOf p q' < 2 ^ b ∧ 2 ≤ b ∧ b ≤ 805, ?_, ?_⟩
  · refine ⟨_, rfl, _, rfl, .ref pu, .ref pw, p, q', 90, rfl, ⟨pu, xs, rfl, eu, ru⟩, ⟨pw, ys, rfl, ew, rv⟩, by omega, by omega, fun r hr => by have := lr r hr; omega, fun r hr => by have := lr2 r hr; omega, Nat.lt_trans hN (by decide), h3, by decide, fun b H1 hb hm s1 => ⟨b + 2, rfl, s1, ?_, by omega, ?_⟩⟩
    · rw [Nat.pow_add]; omega
    · have := hm 803 h4; omega
  rintro σ1 H1 ⟨b, rfl, s1, hb, b2, b805⟩
  have nmp : ∀ r ∈ p, nm r < 2 ^ b := fun r hr => by have := nm_le_sum hr; omega
  have nmq : ∀ r ∈ q', nm r < 2 ^ b := fun r hr => by have := nm_le_sum hr; omega
  refine ⟨_, rfl, _, rfl, .ref pu, p, b, rfl, ⟨pu, xs, rfl, s1 _ _ eu, ru.kt (Kt.of s1)⟩, by omega, fun r hr => ⟨by have := lr r hr; omega, nmp r hr⟩, by omega, fun z2 H2 s2 rz => ?_⟩
  have s12 := s1.trans s2
  refine ⟨_, rfl, _, rfl, .ref pw, q', b, rfl, ⟨pw, ys, rfl, s12 _ _ ew, rv.kt (Kt.of s12)⟩, by omega, fun r hr => ⟨by have := lr2 r hr; omega, nmq r hr⟩, by omega, fun z3 H3 s3 rz3 => ?_⟩
  have eN : ((2 ^ b : Nat) : Int) = (2 : Int) ^ b := by rw [Int.natCast_pow]; rfl
  have gF : g (p.map (ev (2 ^ b))) = fun i => ev (2 ^ b) (rw' p i) := funext fun i => g_map_ev _ p i
  have hne : g (p.map (ev (2 ^ b))) n ≠ 0 := by
    rw [g_map_ev, ← eN]
    exact ev_ne ok1 ne1 fun c hc => Nat.lt_of_le_of_lt (nm_mem hc) (nmp _ (mem_len (by omega)))
  obtain ⟨fd, e1, e2, e3⟩ := srn n1 n4 (F := p.map (ev (2 ^ b))) (G := q'.map (ev (2 ^ b))) (by rw [List.length_map, lp]) (by rw [List.length_map, lq]) (fun i hi => by rw [g_map_ev, g_map_ev, hd'.2 i hi, ev_scl]) hne
  have W3 : ∀ r ∈ p, Wd 3400 (ev (2 ^ b) r) := fun r hr => (ev_wd2 (b := b) (c := 88) (Nat.lt_of_le_of_lt (nm_le_sum hr) hN) (lr r hr)).up (by omega)
  have W4 : ∀ r ∈ q', Wd 3400 (ev (2 ^ b) r) := fun r hr => (ev_wd2 (b := b) (c := 90) (Nat.lt_of_le_of_lt (nm_le_sum hr) h3) (lr2 r hr)).up (by omega)
  refine ⟨z2, z3, p.map (ev (2 ^ b)), q'.map (ev (2 ^ b)), 3400, fd, _, rfl, rz.kt (Kt.of s3), rz3, by rw [List.length_map]; omega, by rw [List.length_map]; omega, by rw [List.length_map, List.length_map]; omega, fun c hc => ?_, fun c hc => ?_, by decide, ?_, ?_, by omega, e3, fun H4 s4 => ⟨_, rfl, b, resR n p, ?_, okR_trim _, resR_len n1 n4 (fun r hr => by have := lr r hr; omega), b2, by omega, fun c hc => ?_, fun z H5 s5 rz => q z H5 (s12.trans (s3.trans (s4.trans s5))) rz⟩⟩
  · obtain ⟨r, hr, rfl⟩ := List.mem_map.mp hc; exact W3 r hr
  · obtain ⟨r, hr, rfl⟩ := List.mem_map.mp hc; exact W4 r hr
  · rw [List.length_map, lp, show n + 1 - 2 = n - 1 by omega]
    have := Nat.pow_le_pow_right (n := 5) (by decide) (show n - 1 ≤ 3 by omega)
    have := Nat.mul_le_mul_left 3400 this
    omega
  · rw [List.length_map, lp, show n + 1 - 1 = n by omega, show n + 1 - 2 = n - 1 by omega]; exact e1
  · have ev1 := ev_resR (2 ^ b) n p
    rw [List.length_map, lp, show n + 1 - 1 = n by omega, ev1, gF]
    unfold sgn
    dsimp only
    split
    · rw [Int.one_mul]; rfl
    · rw [Int.neg_mul, Int.one_mul]; rfl
  · have := nm_mem hc
    omega
end
end K27

set_option Elab.async false
set_option linter.all false
set_option maxRecDepth 100000
set_option maxHeartbeats 8000000
local macro_rules | `(tactic| walk_at "rd") => `(tactic| dsimp only [Evl.tCut, L2.tSeq, L2.tNext, L2.tRet, L2.tRetN, L2.tAsg, L2.gName, L2.tIfS, L2.tDrop, L2.tCons, L2.tNil, L2.tC, L2.tVar, L2.tCB, L2.tAndV, L2.tOrV, L2.tNotV, L2.tB, L2.tTest, L2.tOp, L2.tUn, L2.tNot, L2.tAnd, L2.tOr, L2.tIf, L2.tCall, L2.tTup, L2.tLst, L2.tNotT, L2.tYes, L2.gTup, L2.gCons, L2.gNil, L2.gSub, L2.tBM0, L2.tBM, L2.tWhile, L2.tFor, L2.iRng1, L2.iRng2, L2.tAugS, Tw.iEnumT, L2.tCKw, L2.tAug, L2.ipI, RT.iRevA, L2.iRevR, L2.tPar, L2.tPar3, L2.tSl, L2.tNoPart, L2.tPart, Tw.tRevT, L2.rAdd, L2.rSub, L2.tBits])
namespace K27
open PySem PySem.Spec PyProof.Rows L2 Tw
/-! the quotient of rows -/
def spQuot : Sp := fun vs H Q _ => ∃ (u v : V) (r bb qq : List Int) (W : Nat), vs = [u, v] ∧ Ro H u r ∧ Ro H v bb ∧ okR r ∧ okR bb ∧ bb ≠ [] ∧ okR qq ∧ (∀ k, g r k = cv (g bb) (g qq) k) ∧ r.length ≤ 1000 ∧ bb.length ≤ 1000 ∧ WdA 29 bb ∧ WdA W r ∧ WdA W qq ∧ W ≤ 400000 ∧ ∀ z H', Same H H' → Ro H' z qq → Q z H'
/-- the part of a product that stands above k of the second row's numbers -/
def part (bb qq : List Int) (k i : Nat) : Int := S k fun a => if a ≤ i then g qq a * g bb (i - a) else 0
theorem part_all (bb qq : List Int) (i : Nat) : part bb qq qq.length i = cv (g bb) (g qq) i := by
  rw [cv_comm]
  exact cv_loop (fun i hi => g_none hi) i
theorem part_top {bb qq : List Int} {k : Nat} (h : 1 ≤ bb.length) : part bb qq (k + 1) (k + bb.length - 1) = g qq k * hd bb := by
  unfold part
  rw [S, S_ext (h := fun _ => 0) k fun a ha => by rw [if_pos (by omega), g_none (r := bb) (by omega), Int.mul_zero], S_zero, Int.zero_add, if_pos (by omega), show k + bb.length - 1 - k = bb.length - 1 by omega]
  rfl
theorem part_succ (bb qq : List Int) (k i : Nat) : part bb qq (k + 1) i = part bb qq k i + (if k ≤ i then g qq k * g bb (i - k) else 0) := rfl
theorem part_above {bb qq : List Int} {i : Nat} (h : bb.length + qq.length ≤ i + 1) (hb : 1 ≤ bb.length) : part bb qq qq.length i = 0 := by
  unfold part
  rw [S_ext (h := fun _ => 0) _ fun a ha => ?_, S_zero]
  split
  · rw [g_none (r := bb) (by omega), Int.mul_zero]
  · rfl
theorem quot_len {r bb qq : List Int} (okr : okR r) (okb : okR bb) (nb : bb ≠ []) (okq : okR qq) (nq : qq ≠ []) (hc : ∀ k, g r k = cv (g bb) (g qq) k) : r.length + 1 = bb.length + qq.length := by
  have lb := List.length_pos_iff.mpr nb
  have lq := List.length_pos_iff.mpr nq
  have e1 : g r (qq.length - 1 + bb.length - 1) ≠ 0 := by
    rw [hc, ← part_all, show qq.length = qq.length - 1 + 1 by omega, show qq.length - 1 + 1 - 1 + bb.length - 1 = qq.length - 1 + bb.length - 1 by omega, part_top lb]
    exact Int.mul_ne_zero (okR_last okq nq) (okR_last okb nb)
  have l1 : qq.length - 1 + bb.length - 1 < r.length := by
    rcases Nat.lt_or_ge (qq.length - 1 + bb.length - 1) r.length with c | c
    · exact c
    · exact absurd (g_none c) e1
  have nr : r ≠ [] := fun z => by rw [z] at l1; simp at l1
  have e2 := okR_last okr nr
  rw [hc, ← part_all] at e2
  rcases Nat.lt_or_ge (bb.length + qq.length) (r.length - 1 + 1 + 1) with c | c
  · exact absurd (part_above (by omega) lb) e2
  · omega
/-- any of a list of ints -/
def rAnyI (K : PySem.W.Frag) : List V → Hp → VK → Prop := fun vs H Q => ∃ (a : Addr) (ns : List Int), vs = [V.ref a] ∧ SqL K H a (ns.map V.int) ∧ Q (.bl (ns.any fun i => i != 0)) H
theorem truth_ints {prog : Program} {w : World} {A : Around} : ∀ {its : List Value} {ns : List Int}, Vals (ns.map V.int) its →
    TruthOf prog w A (fun i v => its.toArray[i]? = some v) (fun i => (ns.getD i 0) != 0) := fun {its ns} r i v s Q E hv hq => by
  have hv' : its[i]? = some v := by simpa using hv
  have hl := r.length
  have hi : i < ns.length := by
    have := (List.getElem?_eq_some_iff.mp hv').1
    rw [List.length_map] at hl
    omega
  obtain ⟨u, eu, ru⟩ := r.get (i := i) (x := .int ns[i]) (by rw [List.getElem?_map, List.getElem?_eq_getElem hi]; rfl)
  rw [hv'] at eu
  injection eu with eu
  subst eu
  obtain ⟨t, rfl⟩ := ru
  have hg : ns.getD i 0 = ns[i] := by rw [List.getD_eq_getElem?_getD, List.getElem?_eq_getElem hi]; rfl
  have hq' : Q ((ns.getD i 0) != 0) s := hq
  rw [hg] at hq'
  exact PyProof.Rows.truthy_int hq'
theorem any_rangeI : ∀ ns : List Int, (List.range ns.length).any (fun i => ns.getD i 0 != 0) = ns.any fun i => i != 0
  | [] => rfl
  | b :: ns => by
    rw [List.length_cons, List.range_succ_eq_map, List.any_cons, List.any_map, List.any_cons, ← any_rangeI ns]
    all_goals rfl
theorem cr_anyI {X : Cx} (hc : X.calm = true) : CallR X (.builtin "any") (rAnyI X.K) := by
  intro pins s σ H vs us Q I r h
  obtain ⟨a, ns, rfl, hs, q⟩ := h
  obtain ⟨its, rv, hl, _⟩ := I.list hs
  rw [Vals.ref1 r]
  refine call_any_walk (iter_any hl.isList fun s₂ e2 st hne => ?_)
  subst e2
  refine ⟨_, _, _, _, _, _, _, rfl, Walks.list (A := X.A.in1) (I.ok.hd hc) _ a hne its.toArray, st, truth_ints rv, fun h' tk hk => ?_⟩
  refine ⟨.bl _, H, I.kept fun b o eo => hk b o (fun hmem => ?_) (Heap.get?_push_of_some _ eo), ?_, q⟩
  · rcases List.mem_cons.mp hmem with e1 | hmem
    · exact absurd (e1 ▸ Heap.lt_size eo) (Nat.lt_irrefl _)
    · cases hmem
  · show Value.bool _ = Value.bool _
    have hl := rv.length
    rw [List.length_map] at hl
    rw [← any_rangeI, List.size_toArray, hl]
section
variable {P : Program} {w : World} {K : PySem.W.Frag} {mg : Str → Option Value} {base : Heap}
theorem scRQuot : FnScope ["row", "by", "rest", "head", "found", "at", "top", "part", "k", "number"] ["row", "by"] (defScope sRQuot) := ⟨rfl, rfl, rfl, by decide +kernel, rfl, by decide +kernel, by decide +kernel⟩
theorem ok_quot (D : Def K mg "row_quotient" sRQuot ["row", "by"]) (nb : Nb mg) : Cal P w K mg base "row_quotient" 1 ["row", "by"] spQuot := by
  refine D.ok scRQuot (fun vs H Q E h => ?_) (fun f cdv A out s H vs Q E hr h => ?_)
  · obtain ⟨u, v, r, bb, qq, W, rfl, _⟩ := h; rfl
  obtain ⟨u, v, r, bb, qq, W, rfl, ⟨pu, rfl, eu⟩, ⟨pw, rfl, ew⟩, okr, okb, nb', okq, hc, lr, lb, wb, wr, wq, hW, q⟩ := h
  refine ⟨_, Evl.pss_cut (ps_if (pt_not (pt_truth (pv 0) (fun _ => rfl)))
      (pss_one (ps_ret (pe_tup pa_nil)))
      (pss_nil))
    (Evl.pss_cut (ps_if (pt_cmpR op_lt (pe_callB (id := "len") (r := rLn K) call_len_seq (by rfl) nb.len PySem.boot_len (pa_cons (pv 0) pa_nil)) (pe_callB (id := "len") (r := rLn K) call_len_seq (by rfl) nb.len PySem.boot_len (pa_cons (pv 1) pa_nil)) (nomark _))
      (pss_one (ps_ret pe_non))
      (pss_nil))
    (Evl.pss_cut (ps_set (i := 2) scRQuot.nd rfl (Or.inl rfl) (pe_callTy (T := "list") call_list_of (by rfl) nb.lst (by decide +kernel) (pa_cons (pv 0) pa_nil)))
    (Evl.pss_cut (ps_set (i := 3) scRQuot.nd rfl (Or.inl rfl) (pe_ix (r := rIxT K) ix_tup (pv 1) (pe_un un_neg pe_int) (fun _ _ => rfl)))
    (Evl.pss_cut (ps_set (i := 4) scRQuot.nd rfl (Or.inl rfl) (pe_op op_rep (pe_lst (pa_cons pe_int pa_nil)) (pe_op op_add (pe_op op_sub (pe_callB (id := "len") (r := rLn K) call_len_seq (by rfl) nb.len PySem.boot_len (pa_cons (pv 0) pa_nil)) (pe_callB (id := "len") (r := rLn K) call_len_seq (by rfl) nb.len PySem.boot_len (pa_cons (pv 1) pa_nil))) pe_int)))
    (Evl.pss_cut (ps_for PassesOwn.never rfl (pi_revR (by rfl) nb.rev (prg_1 (by rfl) nb.rng (pe_callB (id := "len") (r := rLn K) call_len_seq (by rfl) nb.len PySem.boot_len (pa_cons (pv 4) pa_nil)))) (pg_name (i := 5) scRQuot.nd rfl (Or.inl rfl))
      (Evl.pss_cut (ps_set (i := 6) scRQuot.nd rfl (Or.inl rfl) (pe_ix (r := rIxL K) ix_list (pv 2) (pe_op op_sub (pe_op op_add (pv 5) (pe_callB (id := "len") (r := rLn K) call_len_seq (by rfl) nb.len PySem.boot_len (pa_cons (pv 1) pa_nil))) pe_int) (fun _ _ => rfl)))
    (Evl.pss_cut (ps_set (i := 7) scRQuot.nd rfl (Or.inl rfl) (pe_op op_fdivN (pv 6) (pv 3)))
    (Evl.pss_cut (ps_if (pt_cmpR op_ne (pe_op op_mulW (pv 7) (pv 3)) (pv 6) (nomark _))
      (pss_one (ps_ret pe_non))
      (pss_nil))
    (Evl.pss_cut (ps_asg (pv 7) (pg_sub (pv 4) (pv 5) set_list))
    (pss_one (ps_if (pt_truth (pv 7) (by intro _; rfl))
      (pss_one (ps_for PassesOwn.never rfl (pi_enumT (by rfl) nb.enm (pv 1)) (pg_tup rfl (pgs_cons (pg_name (i := 8) scRQuot.nd rfl (Or.inl rfl)) (pgs_cons (pg_name (i := 9) scRQuot.nd rfl (Or.inl rfl)) pgs_nil)))
      (pss_one (ps_augS (pv 2) (pe_op op_add (pv 5) (pv 8)) get_l (pe_op op_mulW (pv 7) (pv 9)) ip_sub set_list))))
      (pss_nil))))))))
    (pss_one (ps_ret (pe_ifExp (pt_val (pe_callB (id := "any") (r := rAnyI K) (cr_anyI rfl) (by rfl) nb.any (by decide +kernel) (pa_cons (pv 2) pa_nil))) pe_non (pe_callTy (T := "tuple") call_tuple_of (by rfl) nb.tup (by decide +kernel) (pa_cons (pv 4) pa_nil)))))))))), ?_⟩
  walk_at "rd"
  have lbb := List.length_pos_iff.mpr nb'
  have emp : ∀ l : List Int, (l.map V.int).isEmpty = l.isEmpty := fun l => by cases l <;> rfl
  by_cases er : r = []
  · subst er
    have eq : qq = [] := by
      by_cases c : qq = []
      · exact c
      · have := quot_len okr okb nb' okq c hc
        have := List.length_pos_iff.mpr c
        have hz : ([] : List Int).length = 0 := rfl
        omega
    subst eq
    refine ⟨fun _ _ => False, ?_, fun _ _ h => h.elim⟩
    exact ⟨_, rfl, _, .inr (.inl ⟨_, SqT.of eu, rfl⟩), iteT ⟨sz (by simp), fun l nl => q _ _ (same_new nl) ⟨l, rfl, upd_same⟩⟩⟩
  have nq : qq ≠ [] := fun z => er (okR_zero okr fun c hc' => by
    obtain ⟨k, hk, e⟩ := List.getElem_of_mem hc'
    rw [← e, ← g_some hk, hc, ← part_all, z]
    rfl)
  have hl := quot_len okr okb nb' okq nq hc
  have lqq := List.length_pos_iff.mpr nq
  refine ⟨fun σ H' => σ = [some (.ref pu), some (.ref pw), none, none, none, none, none, none, none, none] ∧ H' = H, ?_, ?_⟩
  · refine ⟨_, rfl, _, .inr (.inl ⟨_, SqT.of eu, rfl⟩), ?_⟩
    rw [emp, show r.isEmpty = false by cases r with | nil => exact absurd rfl er | cons a l => rfl]
    exact iteF ⟨rfl, rfl⟩
  rintro σ1 H1 ⟨rfl, rfl⟩
  refine ⟨fun σ H' => σ = [some (.ref pu), some (.ref pw), none, none, none, none, none, none, none, none] ∧ H' = H1, ?_, ?_⟩
  · refine ⟨_, rfl, pu, _, rfl, .inr (SqT.of eu), _, rfl, pw, _, rfl, .inr (SqT.of ew), _, _, rfl, rfl, _, rfl, ite2 (fun c => ?_) (fun c => ⟨rfl, rfl⟩)⟩
    have c := of_decide_eq_true c
    rw [List.length_map, List.length_map] at c
    omega
  rintro σ2 H2 ⟨rfl, rfl⟩
  refine ⟨fun σ H' => ∃ L, σ = [some (.ref pu), some (.ref pw), some (.ref L), none, none, none, none, none, none, none] ∧ Same H2 H' ∧ H2 L = none ∧ H' L = some (.lst (r.map V.int)), ?_, ?_⟩
  · exact ⟨_, rfl, pu, _, rfl, .inr (SqT.of eu), fun L nL => ⟨L, rfl, same_new nL, nL, upd_same⟩⟩
  rintro σ3 H3 ⟨L, rfl, s3, nL, eL⟩
  refine ⟨fun σ H' => σ = [some (.ref pu), some (.ref pw), some (.ref L), some (.int (hd bb)), none, none, none, none, none, none] ∧ H' = H3, ?_, ?_⟩
  · exact ⟨_, rfl, _, rfl, pw, _, _, _, rfl, rfl, SqT.of (s3 _ _ ew), at_last lbb, rfl, rfl⟩
  rintro σ4 H4 ⟨rfl, rfl⟩
  refine ⟨fun σ H' => ∃ F, σ = [some (.ref pu), some (.ref pw), some (.ref L), some (.int (hd bb)), some (.ref F), none, none, none, none, none] ∧ Same H2 H' ∧ H2 F = none ∧ F ≠ L ∧ H' L = some (.lst (r.map V.int)) ∧ H' F = some (.lst ((List.replicate qq.length (0 : Int)).map V.int)), ?_, ?_⟩
  · refine ⟨sz (by simp), fun L0 n0 => ⟨_, rfl, pu, _, rfl, .inr (SqT.of ((s3.trans (same_new n0)) _ _ eu)), _, rfl, pw, _, rfl, .inr (SqT.of ((s3.trans (same_new n0)) _ _ ew)), _, _, rfl, rfl, _, _, rfl, rfl, L0, _, _, rfl, rfl, upd_same, ?_, ?_, ?_, fun F nF => ?_⟩⟩
    · rw [List.length_map, List.length_map]; omega
    · rw [List.length_map, List.length_map]; omega
    · rw [List.length_map, List.length_map]
      have := sz (n := qq.length) (by omega)
      show 1 * _ ≤ _
      rw [Nat.one_mul]
      omega
    have el0 : (((r.map V.int).length : Int) - ((bb.map V.int).length : Int) + 1).toNat = qq.length := by rw [List.length_map, List.length_map]; omega
    rw [el0, flat_one]
    have s4 := same_new (o := .lst [.int 0]) n0
    have s5 := s4.trans (same_new (o := .lst (List.replicate qq.length (V.int 0))) nF)
    exact ⟨F, rfl, s3.trans s5, s3.free (s4.free nF), (fun z => by rw [z, s4 _ _ eL] at nF; cases nF), s5 _ _ eL, by rw [upd_same, List.map_replicate]⟩
  rintro σ5 H5 ⟨F, rfl, s5, nF, FL, eL5, eF5⟩
  refine ⟨fun σ H' => ∃ (x5 x6 x7 x8 x9 : Option V) (rest : List Int), σ = [some (.ref pu), some (.ref pw), some (.ref L), some (.int (hd bb)), some (.ref F), x5, x6, x7, x8, x9] ∧ Same H2 H' ∧ H' L = some (.lst (rest.map V.int)) ∧ (∀ i, g rest i = 0) ∧ H' F = some (.lst (qq.map V.int)), ?_, ?_⟩
  · refine ⟨_, rfl, F, _, rfl, .inl (SqL.of eF5), _, rfl, by omega, by omega, by rw [List.length_map, List.length_replicate]; omega, by rw [List.length_map, List.length_replicate]; omega, ?_⟩
    rw [List.length_map, List.length_replicate]
    refine for_down (n := qq.length) (fun k σ H' => ∃ (x5 x6 x7 x8 x9 : Option V) (rest fnd : List Int), σ = [some (.ref pu), some (.ref pw), some (.ref L), some (.int (hd bb)), some (.ref F), x5, x6, x7, x8, x9] ∧ Same H2 H' ∧ H' L = some (.lst (rest.map V.int)) ∧ rest.length = r.length ∧ (∀ i, g rest i = part bb qq k i) ∧ H' F = some (.lst (fnd.map V.int)) ∧ fnd.length = qq.length ∧ (∀ i, g fnd i = if k ≤ i then g qq i else 0)) ?_ ?_ ?_
    · refine ⟨_, _, _, _, _, r, _, rfl, s5, eL5, rfl, fun i => by rw [part_all, hc], eF5, by rw [List.length_replicate], fun i => ?_⟩
      split
      · rw [g_none (by rw [List.length_replicate]; assumption), g_none (by assumption)]
      · rw [g_some (by rw [List.length_replicate]; omega), List.getElem_replicate]
    · rintro k σ H6 hk ⟨x5, x6, x7, x8, x9, rest, fnd, rfl, s6, eL, lrest, grest, eF, lf, gf⟩
      have hdn : hd bb ≠ 0 := okR_last okb nb'
      have wk : Wd W (g qq k) := wq.g k
      have gtop : g rest (k + bb.length - 1) = g qq k * hd bb := by rw [grest, part_top lbb]
      refine ⟨fun σ H' => σ = [some (.ref pu), some (.ref pw), some (.ref L), some (.int (hd bb)), some (.ref F), some (.int (k : Int)), some (.int (g qq k * hd bb)), x7, x8, x9] ∧ H' = H6, ?_, ?_⟩
      · refine ⟨_, rfl, _, rfl, _, rfl, pw, _, rfl, .inr (SqT.of (s6 _ _ ew)), _, _, rfl, rfl, _, _, rfl, rfl, L, _, _, _, rfl, rfl, SqL.of eL, ?_, rfl, rfl⟩
        rw [List.length_map, show (k : Int) + (bb.length : Int) - 1 = ((k + bb.length - 1 : Nat) : Int) by omega]
        exact atI_nat (by rw [at_g (by omega), gtop])
      rintro σ7 H7 ⟨rfl, rfl⟩
      refine ⟨fun σ H' => σ = [some (.ref pu), some (.ref pw), some (.ref L), some (.int (hd bb)), some (.ref F), some (.int (k : Int)), some (.int (g qq k * hd bb)), some (.int (g qq k)), x8, x9] ∧ H' = H7, ?_, ?_⟩
      · refine ⟨_, rfl, _, rfl, _, _, rfl, rfl, ⟨hdn, ?_⟩, ?_, rfl⟩
        · have : (hd bb).natAbs < 2 ^ 29 := wb.hd
          omega
        · show [_, _, _, _, _, _, _, some (V.int ((g qq k * hd bb).fdiv (hd bb))), _, _] = _
          rw [Int.mul_fdiv_cancel _ hdn]
      rintro σ8 H8 ⟨rfl, rfl⟩
      refine ⟨fun σ H' => σ = [some (.ref pu), some (.ref pw), some (.ref L), some (.int (hd bb)), some (.ref F), some (.int (k : Int)), some (.int (g qq k * hd bb)), some (.int (g qq k)), x8, x9] ∧ H' = H8, ?_, ?_⟩
      · refine ⟨_, rfl, _, rfl, _, _, rfl, rfl, wk.cm wb.hd (by omega), _, rfl, rfl, false, ?_, iteF ⟨rfl, rfl⟩⟩
        rw [decide_eq_true rfl]; rfl
      rintro σ9 H9 ⟨rfl, rfl⟩
      have gf2 : ∀ i, g (fnd.set k (g qq k)) i = if k ≤ i then g qq i else 0 := fun i => by
        rw [g_set (by omega), gf]
        by_cases c : i = k
        · subst c; rw [if_pos rfl, if_pos (Nat.le_refl _)]
        · rw [if_neg c]
          by_cases d : k ≤ i
          · rw [if_pos d, if_pos (by omega)]
          · rw [if_neg d, if_neg (by omega)]
      refine ⟨fun σ H' => σ = [some (.ref pu), some (.ref pw), some (.ref L), some (.int (hd bb)), some (.ref F), some (.int (k : Int)), some (.int (g qq k * hd bb)), some (.int (g qq k)), x8, x9] ∧ Same H2 H' ∧ H' L = some (.lst (rest.map V.int)) ∧ H' F = some (.lst ((fnd.set k (g qq k)).map V.int)), ?_, ?_⟩
      · refine ⟨_, rfl, _, rfl, _, rfl, F, _, _, k, rfl, rfl, eF, ixN_nat (by rw [List.length_map]; omega), rfl, fun b o e => ?_, ?_, ?_⟩
        · rw [upd_ne (ne_of_none e nF)]; exact s6 _ _ e
        · rw [upd_ne FL.symm]; exact eL
        · rw [upd_same, List.map_set]
      rintro σ10 H10 ⟨rfl, s10, eL10, eF10⟩
      refine ⟨_, rfl, _, rfl, ?_⟩
      by_cases c : g qq k = 0
      · rw [c]
        refine iteF ⟨_, _, _, _, _, rest, fnd.set k (g qq k), rfl, s10, eL10, lrest, fun i => ?_, eF10, by rw [List.length_set]; exact lf, gf2⟩
        rw [grest, part_succ, c]
        split <;> simp
      rw [show (g qq k != 0) = true from bne_iff_ne.mpr c]
      refine iteT ⟨_, rfl, pw, bb.map V.int, rfl, SqT.of (s10 _ _ ew), for_enumT (xs := bb.map V.int) (fun j σ H' => ∃ (x8 x9 : Option V) (rest : List Int), σ = [some (.ref pu), some (.ref pw), some (.ref L), some (.int (hd bb)), some (.ref F), some (.int (k : Int)), some (.int (g qq k * hd bb)), some (.int (g qq k)), x8, x9] ∧ Same H2 H' ∧ H' L = some (.lst (rest.map V.int)) ∧ rest.length = r.length ∧ (∀ i, g rest i = part bb qq (k + 1) i - (if k ≤ i ∧ i - k < j then g qq k * g bb (i - k) else 0)) ∧ H' F = some (.lst ((fnd.set k (g qq k)).map V.int))) ?_ ?_ ?_ ?_⟩
      · exact ⟨x8, x9, rest, rfl, s10, eL10, lrest, fun i => by rw [grest, if_neg (by omega)]; omega, eF10⟩
      · rintro j σ H' hj ⟨x8, x9, rest, rfl, s11, _⟩
        exact SqT.of (s11 _ _ ew)
      · rintro j x p σ H11 hx ⟨x8, x9, rest, rfl, s11, eL11, lr11, gr11, eF11⟩ np
        have hj : j < bb.length := by have := (List.getElem?_eq_some_iff.mp hx).1; rwa [List.length_map] at this
        rw [at_g hj] at hx
        injection hx with hx
        subst hx
        have s12 := s11.trans (same_new (o := .tup [.int (j : Nat), .int (g bb j)]) np)
        have nL2 : p ≠ L := fun z => by rw [z, eL11] at np; cases np
        have nF2 : p ≠ F := fun z => by rw [z, eF11] at np; cases np
        have eL12 : upd H11 p (.tup [.int (j : Nat), .int (g bb j)]) L = some (.lst (rest.map V.int)) := by rw [upd_ne nL2.symm]; exact eL11
        have eF12 : upd H11 p (.tup [.int (j : Nat), .int (g bb j)]) F = some (.lst ((fnd.set k (g qq k)).map V.int)) := by rw [upd_ne nF2.symm]; exact eF11
        refine ⟨p, _, rfl, SqT.of upd_same, rfl, _, _, rfl, _, _, rfl, rfl, ?_⟩
        generalize upd H11 p (.tup [.int (j : Nat), .int (g bb j)]) = H12 at s12 eL12 eF12 ⊢
        refine ⟨_, rfl, _, rfl, _, rfl, _, _, rfl, rfl, L, _, k + j, _, rfl, ?_, SqL.of eL12, at_g (by omega), _, rfl, _, rfl, _, _, rfl, rfl, wk.cm (wb.g j) (by omega), _, _, rfl, rfl, L, _, _, k + j, rfl, rfl, eL12, ?_, _, _, rest.set (k + j) (g rest (k + j) - g qq k * g bb j), rfl, fun b o e => ?_, ?_, by rw [List.length_set]; exact lr11, fun i => ?_, ?_⟩
        · show V.int ((k : Int) + (j : Int)) = _; rw [show (k : Int) + (j : Int) = ((k + j : Nat) : Int) by omega]
        · rw [show (k : Int) + (j : Int) = ((k + j : Nat) : Int) by omega, List.length_map]
          exact ixN_nat (by omega)
        · rw [upd_ne (ne_of_none e nL)]; exact s12 _ _ e
        · rw [upd_same, List.map_set]
        · rw [g_set (by omega), gr11, gr11]
          by_cases d : i = k + j
          · subst d
            rw [if_pos rfl, if_neg (by omega), if_pos (by omega), show k + j - k = j by omega]
            omega
          · rw [if_neg d]
            by_cases e : k ≤ i ∧ i - k < j
            · rw [if_pos e, if_pos (by omega)]
            · rw [if_neg e, if_neg (by omega)]
        · rw [upd_ne FL]; exact eF12
      · rintro σ H11 ⟨x8, x9, rest, rfl, s11, eL11, lr11, gr11, eF11⟩
        refine ⟨_, _, _, x8, x9, rest, fnd.set k (g qq k), rfl, s11, eL11, lr11, fun i => ?_, eF11, by rw [List.length_set]; exact lf, gf2⟩
        rw [gr11, part_succ, List.length_map]
        by_cases d : k ≤ i
        · rw [if_pos d]
          by_cases e : i - k < bb.length
          · rw [if_pos ⟨d, e⟩]; omega
          · rw [if_neg (fun z => e z.2), g_none (r := bb) (by omega)]; simp
        · rw [if_neg d, if_neg (fun z => d z.1)]; omega
    · rintro σ H6 ⟨x5, x6, x7, x8, x9, rest, fnd, rfl, s6, eL, lrest, grest, eF, lf, gf⟩
      refine ⟨x5, x6, x7, x8, x9, rest, rfl, s6, eL, fun i => grest i, ?_⟩
      rw [eF, row_eq lf fun i => by rw [gf, if_pos (Nat.zero_le _)]]
  rintro σ6 H6 ⟨x5, x6, x7, x8, x9, rest, rfl, s6, eL, grest, eF⟩
  refine ⟨_, rfl, L, rest, rfl, SqL.of eL, _, rfl, ?_⟩
  have ha : (rest.any fun i => i != 0) = false := by
    rw [List.any_eq_false]
    intro x hx
    obtain ⟨k, hk, e⟩ := List.getElem_of_mem hx
    have := grest k
    rw [g_some hk, e] at this
    simp [this]
  rw [ha]
  exact iteF ⟨_, rfl, F, _, rfl, .inl ⟨SqL.of eF, fun l nl => q _ _ (s6.trans (same_new nl)) ⟨l, rfl, upd_same⟩⟩⟩
end
end K27

set_option Elab.async false
set_option linter.all false
set_option maxRecDepth 100000
set_option maxHeartbeats 8000000
local macro_rules | `(tactic| walk_at "rd") => `(tactic| dsimp only [Evl.tCut, L2.tSeq, L2.tNext, L2.tRet, L2.tRetN, L2.tAsg, L2.gName, L2.tIfS, L2.tDrop, L2.tCons, L2.tNil, L2.tC, L2.tVar, L2.tCB, L2.tAndV, L2.tOrV, L2.tNotV, L2.tB, L2.tTest, L2.tOp, L2.tUn, L2.tNot, L2.tAnd, L2.tOr, L2.tIf, L2.tCall, L2.tTup, L2.tLst, L2.tNotT, L2.tYes, L2.gTup, L2.gCons, L2.gNil, L2.gSub, L2.tBM0, L2.tBM, L2.tWhile, L2.tFor, L2.iRng1, L2.iRng2, L2.tAugS, Tw.iEnumT, L2.tCKw, L2.tAug, L2.ipI, RT.iRevA, L2.iRevR, L2.tPar, L2.tPar3, L2.tSl, L2.tNoPart, L2.tPart, Tw.tRevT, L2.rAdd, L2.rSub, L2.tBits])
namespace K27
open PySem PySem.Spec PyProof.Rows L2 Tw
/-! the discriminant -/
def spPDisc : Sp := fun vs H Q _ => ∃ (u : V) (p : List (List Int)) (n : Nat), vs = [u] ∧ Po H u p ∧ okP p ∧ p.length = n + 1 ∧ 1 ≤ n ∧ n ≤ 4 ∧ (∀ r ∈ p, r.length ≤ 5) ∧ sumN p < 2 ^ 88 ∧ WdA 29 (rw' p n) ∧ ∀ z H', Same H H' → Ro H' z (discR n p) → Q z H'
def spDisc : Sp := fun vs H Q _ => ∃ (a : Addr) (u : V) (p : List (List Int)) (n : Nat), vs = [u] ∧ We a H ∧ Po H u p ∧ okP p ∧ p.length = n + 1 ∧ 1 ≤ n ∧ n ≤ 4 ∧ (∀ r ∈ p, r.length ≤ 5) ∧ sumN p < 2 ^ 88 ∧ WdA 29 (rw' p n) ∧ ∀ z H', Same H H' → Ro H' z (discR n p) → Q z H'
def derP (n : Nat) (p : List (List Int)) : List (List Int) := (List.range n).map fun i => sclR ((i + 1 : Nat) : Int) (rw' p (i + 1))
theorem okR_scl {c : Int} {r : List Int} (hc : c ≠ 0) (h : okR r) : okR (sclR c r) := okR_scaled h hc
theorem der_is (n : Nat) (p : List (List Int)) : IsDer n p (derP n p) := by
  refine ⟨by unfold derP; rw [List.length_map, List.length_range], fun i hi => ?_⟩
  unfold derP
  rw [rw_some (by rw [List.length_map, List.length_range]; exact hi), List.getElem_map, List.getElem_range]
theorem der_ok {n : Nat} {p : List (List Int)} (okp : okP p) (lp : p.length = n + 1) (n1 : 1 ≤ n) : okP (derP n p) := by
  have okr : ∀ i, okR (sclR ((i + 1 : Nat) : Int) (rw' p (i + 1))) := fun i => okR_scl (by omega) (okR_rw okp.1 _)
  refine ⟨fun r hr => ?_, fun r hr e => ?_⟩
  · obtain ⟨i, _, rfl⟩ := List.mem_map.mp hr
    exact okr i
  · have l : (derP n p).length = n := (der_is n p).1
    rw [List.getLast?_eq_getElem?, l] at hr
    have h1 : rw' (derP n p) (n - 1) = r := by
      unfold rw'
      rw [List.getD_eq_getElem?_getD, hr]
      rfl
    rw [(der_is n p).2 (n - 1) (by omega), show n - 1 + 1 = n by omega, e] at h1
    have ne : p ≠ [] := fun z => by rw [z] at lp; cases lp
    have := (lead_row okp ne).2
    rw [lp, show n + 1 - 1 = n by omega] at this
    unfold sclR at h1
    exact this (List.map_eq_nil_iff.mp h1)
theorem der_eq {n : Nat} {p t : List (List Int)} (okp : okP p) (lp : p.length = n + 1) (n1 : 1 ≤ n) (okt : okP t) (h : ∀ i j, co t i j = ((i + 1 : Nat) : Int) * co p (i + 1) j) : t = derP n p := by
  refine poly_ext okt (der_ok okp lp n1) fun i j => ?_
  rw [h]
  rcases Nat.lt_or_ge i n with c | c
  · rw [co_rw (derP n p), (der_is n p).2 i c, g_scl, co_rw p]
  · rw [co_none (p := derP n p) (by rw [(der_is n p).1]; exact c), co_none (by omega), Int.mul_zero]
theorem cv_scl (f h : Nat → Int) (c : Int) (k : Nat) : cv f (fun i => c * h i) k = c * cv f h k := by
  unfold cv
  rw [← S_mul]
  exact S_ext _ fun i _ => by rw [Int.mul_left_comm]
/-- the quotient before its sign -/
def preR (n : Nat) (p : List (List Int)) : List Int := trimI (sclR (sgn n) ((DEn n).row (rw' p)))
theorem pre_prod (n : Nat) (p : List (List Int)) (k : Nat) : g (resR n p) k = cv (g (rw' p n)) (g (preR n p)) k := by
  have e : g (preR n p) = fun i => sgn n * g ((DEn n).row (rw' p)) i := funext fun i => by unfold preR; rw [g_trim, g_scl]
  unfold resR
  rw [e, cv_scl, g_trim, g_scl, g_mul]
theorem pre_disc {n : Nat} {p : List (List Int)} (h : sgn n = 1) : preR n p = discR n p := by
  refine row_ext (okR_trim _) (okR_trim _) fun k => ?_
  unfold preR discR
  rw [g_trim, g_trim, g_scl, h, Int.one_mul]
theorem pre_disc' {n : Nat} {p : List (List Int)} (h : sgn n = -1) {t : List Int} (okt : okR t) (ht : ∀ k, g t k = -1 * g (preR n p) k) : t = discR n p := by
  refine row_ext okt (okR_trim _) fun k => ?_
  rw [ht]
  unfold preR discR
  rw [g_trim, g_trim, g_scl, h]
  omega
section
variable {P : Program} {w : World} {K : PySem.W.Frag} {mg : Str → Option Value} {base : Heap}
theorem scPDisc : FnScope ["poly", "n", "found"] ["poly"] (defScope sPDisc) := ⟨rfl, rfl, rfl, by decide +kernel, rfl, by decide +kernel, by decide +kernel⟩
theorem ok_pdisc (D : Def K mg "poly_discriminant" sPDisc ["poly"]) (nb : Nb mg) (cr : Cal P w K mg base "poly_resultant" 36 ["one", "other"] spPRes) (cd : Cal P w K mg base "poly_derived" 2 ["poly"] spDerP) (cq : Cal P w K mg base "row_quotient" 1 ["row", "by"] spQuot) (cs : Cal P w K mg base "row_scaled" 1 ["row", "whole"] spScR) :
    Cal P w K mg base "poly_discriminant" 37 ["poly"] spPDisc := by
  refine D.ok scPDisc (fun vs H Q E h => ?_) (fun f cdv A out s H vs Q E hr h => ?_)
  · obtain ⟨u, p, n, rfl, _⟩ := h; rfl
  obtain ⟨u, p, n, rfl, ⟨pu, xs, rfl, eu, ru⟩, okp, lp, n1, n4, lr, hN, wh, q⟩ := h
  refine ⟨_, Evl.pss_cut (ps_set (i := 1) scPDisc.nd rfl (Or.inl rfl) (pe_op op_sub (pe_callB (id := "len") (r := rLn K) call_len_seq (by rfl) nb.len PySem.boot_len (pa_cons (pv 0) pa_nil)) pe_int))
    (Evl.pss_cut (ps_set (i := 2) scPDisc.nd rfl (Or.inl rfl) (pe_cal cq hr (by omega) (by rfl) (pa_cons (pe_cal cr hr (by omega) (by rfl) (pa_cons (pv 0) (pa_cons (pe_cal cd hr (by omega) (by rfl) (pa_cons (pv 0) pa_nil)) pa_nil))) (pa_cons (pe_ix (r := rIxT K) ix_tup (pv 0) (pe_un un_neg pe_int) (fun _ _ => rfl)) pa_nil))))
    (pss_one (ps_ret (pe_ifExp (pt_truth (pe_op op_mod (pe_op op_fdiv (pe_op op_mulW (pv 1) (pe_op op_sub (pv 1) pe_int)) pe_int) pe_int) (by intro _; rfl)) (pe_cal cs hr (by omega) (by rfl) (pa_cons (pv 2) (pa_cons (pe_un un_neg pe_int) pa_nil))) (pv 2))))), ?_⟩
  walk_at "rd"
  obtain ⟨h3, h1, h2, h4, h5, h6, h7, ok1, ne1⟩ := res_facts okp lp n1 n4 (der_is n p) hN
  refine ⟨fun σ H' => σ = [some (.ref pu), some (.int (n : Int)), none] ∧ H' = H, ?_, ?_⟩
  · refine ⟨_, rfl, pu, _, rfl, .inr (SqT.of eu), _, _, rfl, rfl, ?_, rfl⟩
    show [_, some (V.int ((xs.length : Int) - 1)), _] = _
    rw [ru.1, lp, show ((n + 1 : Nat) : Int) - 1 = (n : Int) by omega]
  rintro σ1 H1 ⟨rfl, rfl⟩
  refine ⟨fun σ H' => ∃ z, σ = [some (.ref pu), some (.int (n : Int)), some z] ∧ Same H1 H' ∧ Ro H' z (preR n p), ?_, ?_⟩
  · refine ⟨_, rfl, _, rfl, .ref pu, p, 2 ^ 88, rfl, ⟨pu, xs, rfl, eu, ru⟩, okp, ⟨by omega, fun r hr => ⟨by have := lr r hr; omega, fun c hc => by have := nm_mem hc; have := nm_le_sum hr; omega⟩⟩, fun z t H2 s2 pt okt ct => ?_⟩
    have et := der_eq okp lp n1 okt ct
    subst et
    refine ⟨.ref pu, z, p, derP n p, n, rfl, ⟨pu, xs, rfl, s2 _ _ eu, ru.kt (Kt.of s2)⟩, pt, okp, lp, n1, n4, der_is n p, lr, hN, fun z2 H3 s3 r2 => ?_⟩
    have s23 := s2.trans s3
    obtain ⟨vn, evn, rvn⟩ := ru.get (k := n) (by omega)
    have hlx : xs.length = n + 1 := by rw [ru.1, lp]
    refine ⟨_, rfl, _, rfl, pu, xs, _, vn, rfl, rfl, SqT.of (s23 _ _ eu), ?_, z2, vn, resR n p, rw' p n, preR n p, 803, rfl, r2, ?_, okR_trim _, ok1, ne1, okR_trim _, pre_prod n p, resR_len n1 n4 (fun r hr => by have := lr r hr; omega), by have := rw_len lr n; omega, wh, ?_, ?_, by decide, fun z3 H4 s4 r3 => ⟨z3, rfl, s23.trans s4, r3⟩⟩
    · unfold atI ixN
      rw [if_neg (by decide), if_pos (by omega)]
      show xs[(-1 + (xs.length : Int)).toNat]? = _
      rw [show (-1 + (xs.length : Int)).toNat = n by omega, evn]
    · rw [rw_some (by omega)]
      exact rvn.kt (Kt.of s23)
    · intro c hc
      have := nm_mem hc
      unfold Wd
      omega
    · intro c hc
      have a := nm_mem hc
      have b : nm (preR n p) ≤ szOf p (derP n p) := by
        unfold preR
        refine Nat.le_trans (nm_trim _) ?_
        rw [nm_scl, sgn_abs, Nat.one_mul]
        have pos := nm_pos ok1 ne1
        refine Nat.le_trans (Ex.nm _ _) (Nat.le_trans (Nat.le_mul_of_pos_left _ pos) ?_)
        refine Nat.le_trans (DEn_nrm n1 n4 fun i => nm (rw' p i)) ?_
        rw [← szA_sum n p lp, ← szB_sum n p _ (der_is n p)]
        have sz : szOf p (derP n p) = sumN p ^ n * sumN (derP n p) ^ (n + 1) := by unfold szOf; rw [(der_is n p).1, lp]
        rw [sz]
        exact Nat.mul_le_mul (Nat.pow_le_pow_right h1 (by omega)) (Nat.pow_le_pow_right h2 (by omega))
      unfold Wd
      omega
  rintro σ2 H2 ⟨z, rfl, s2, rz⟩
  have eP : ((n : Int) * ((n : Int) - 1)) = ((n * (n - 1) : Nat) : Int) := by
    rw [show (n : Int) - 1 = ((n - 1 : Nat) : Int) by omega, ← Int.natCast_mul]
  refine ⟨_, rfl, _, rfl, _, _, rfl, rfl, _, _, rfl, rfl, ?_, ?_⟩
  · exact Wd.cm (n := 10) (m := 10) (show ((n : Int)).natAbs < 2 ^ 10 by omega) (show ((n : Int) - 1).natAbs < 2 ^ 10 by omega) (by decide)
  dsimp only
  rw [eP]
  have hs : sgn n = if n * (n - 1) / 2 % 2 = 0 then 1 else -1 := rfl
  generalize n * (n - 1) = pp at hs ⊢
  refine ⟨_, _, rfl, rfl, ⟨by decide, by decide⟩, _, _, rfl, rfl, (by show (0 : Int) < 2; decide), _, rfl, ?_⟩
  have em : ((pp : Int) / 2 % 2 != 0) = !decide (pp / 2 % 2 = 0) := by
    by_cases z : pp / 2 % 2 = 0
    · rw [decide_eq_true z, show (pp : Int) / 2 % 2 = 0 by omega]; rfl
    · rw [decide_eq_false z]; exact bne_iff_ne.mpr (by omega)
  rw [em]
  have lpre : (preR n p).length ≤ 100 := by
    have a := Ex.row_len (rw_len (L := 8) (fun r hr => by have := lr r hr; omega)) (DEn n)
    have b := DEn_len n1 n4
    have c := trim_len (sclR (sgn n) ((DEn n).row (rw' p)))
    rw [scl_len] at c
    unfold preR
    omega
  by_cases zz : pp / 2 % 2 = 0
  · rw [decide_eq_true zz]
    rw [if_pos zz] at hs
    refine iteF ⟨_, rfl, q z H2 s2 ?_⟩
    rw [← pre_disc hs]; exact rz
  · rw [decide_eq_false zz]
    rw [if_neg zz] at hs
    refine iteT ⟨_, rfl, _, rfl, z, preR n p, -1, rfl, rz, okR_trim _, lpre, by decide, fun z3 t H3 s3 rt okt gt => q z3 H3 (s2.trans s3) ?_⟩
    rw [← pre_disc' hs okt gt]; exact rt
theorem scDisc : FnScope ["poly"] ["poly"] (defScope sDisc) := ⟨rfl, rfl, rfl, by decide +kernel, rfl, by decide +kernel, by decide +kernel⟩
theorem ok_disc (D : Def K mg "discriminant" sDisc ["poly"]) (nb : Nb mg) (ci : Cal P w K mg base "is_poly" 3 ["value"] (spB polyB)) (cp : Cal P w K mg base "poly_discriminant" 37 ["poly"] spPDisc) : Cal P w K mg base "discriminant" 38 ["poly"] spDisc := by
  refine D.ok scDisc (fun vs H Q E h => ?_) (fun f cdv A out s H vs Q E hr h => ?_)
  · obtain ⟨a, u, p, n, rfl, _⟩ := h; rfl
  obtain ⟨a, u, p, n, rfl, hw, hu, okp, lp, n1, n4, lr, hN, wh, q⟩ := h
  refine ⟨_, pss_cons (ps_if (PW.pt (pw_or (pt_not (pt_val (pe_cal ci hr (by omega) (by rfl) (pa_cons (pv 0) pa_nil)))) (pw_or1 (pt_cmpR op_lt (pe_callB (id := "len") (r := rLn K) call_len_seq (by rfl) nb.len PySem.boot_len (pa_cons (pv 0) pa_nil)) pe_int (nomark _))))) pss_dead pss_nil)
    (pss_one (ps_ret (pe_cal cp hr (by omega) (by rfl) (pa_cons (pv 0) pa_nil)))), ?_⟩
  walk_at "rd"
  have bd : Bd 8 (2 ^ 88) p := ⟨by omega, fun r hr => ⟨by have := lr r hr; omega, fun c hc => by have := nm_mem hc; have := nm_le_sum hr; omega⟩⟩
  refine ⟨u, rfl, a, u, polyD p, 2, rfl, da_poly hw hu, (sm_poly bd).up (Nat.le_refl _) (by decide), fun H1 s1 => ⟨true, ?_, ?_⟩⟩
  · rw [polyB_ok okp]
  obtain ⟨pu, xs, rfl, eu, ru⟩ := hu
  refine iteF ⟨_, rfl, pu, xs, rfl, .inr (SqT.of (s1 _ _ eu)), _, _, rfl, rfl, _, rfl, ite2 (fun c => ?_) (fun c => ?_)⟩
  · have c := of_decide_eq_true c
    rw [ru.1] at c
    omega
  · exact ⟨_, rfl, .ref pu, p, n, rfl, ⟨pu, xs, rfl, s1 _ _ eu, ru.kt (Kt.of s1)⟩, okp, lp, n1, n4, lr, hN, wh, fun z H2 s2 rz => q z H2 (s1.trans s2) rz⟩
end
end K27

set_option Elab.async false
set_option linter.all false
set_option maxRecDepth 100000
set_option maxHeartbeats 8000000
/-! products of lines, and their discriminants -/
namespace K27
/-- a POLY times a line u y + v -/
def lineT (p : List (List Int)) (v u : List Int) : List (List Int) :=
  (List.range (p.length + 1)).map fun i => trimI (addR (mulR (rw' p i) v) (if i = 0 then [] else mulR (rw' p (i - 1)) u))
theorem lineT_len (p : List (List Int)) (v u : List Int) : (lineT p v u).length = p.length + 1 := by unfold lineT; rw [List.length_map, List.length_range]
theorem lineT_rw {p : List (List Int)} {v u : List Int} {i : Nat} (h : i < p.length + 1) : rw' (lineT p v u) i = trimI (addR (mulR (rw' p i) v) (if i = 0 then [] else mulR (rw' p (i - 1)) u)) := by
  rw [rw_some (by rw [lineT_len]; exact h)]
  unfold lineT
  rw [List.getElem_map, List.getElem_range]
theorem lineT_ev (x : Int) (p : List (List Int)) (v u : List Int) (i : Nat) : ev x (rw' (lineT p v u) i) = ev x (rw' p i) * ev x v + (if i = 0 then 0 else ev x (rw' p (i - 1)) * ev x u) := by
  rcases Nat.lt_or_ge i (p.length + 1) with c | c
  · rw [lineT_rw c, ev_trim, ev_add, ev_mul]
    split
    · rfl
    · rw [ev_mul]
  · rw [rw_none (by rw [lineT_len]; exact c), rw_none (p := p) (k := i) (by omega), if_neg (by omega), rw_none (p := p) (k := i - 1) (by omega)]
    simp [ev]
theorem mul_above {r s : List Int} {j : Nat} (h : r.length + s.length ≤ j + 1) : g (mulR r s) j = 0 := by
  rw [g_mul]
  unfold cv
  rw [S_ext (h := fun _ => 0) _ fun a ha => ?_, S_zero]
  rcases Nat.lt_or_ge a r.length with c | c
  · rw [g_none (r := s) (by omega), Int.mul_zero]
  · rw [g_none (r := r) c, Int.zero_mul]
theorem okR_len {r : List Int} {L : Nat} (h : okR r) (z : ∀ j, L ≤ j → g r j = 0) : r.length ≤ L := by
  rcases Nat.lt_or_ge L r.length with c | c
  · have ne : r ≠ [] := fun q => by rw [q] at c; simp at c
    exact absurd (z (r.length - 1) (by omega)) (okR_last h ne)
  · exact c
theorem lineT_rows {p : List (List Int)} {v u : List Int} {L : Nat} (hp : ∀ r ∈ p, r.length ≤ L) (hv : v.length ≤ 2) (hu : u.length ≤ 2) (l1 : 1 ≤ L) : ∀ r ∈ lineT p v u, r.length ≤ L + 1 := fun r hr => by
  obtain ⟨i, hi, e⟩ := List.getElem_of_mem hr
  rw [← e, ← rw_some hi, lineT_rw (by rw [← lineT_len p v u]; exact hi)]
  refine okR_len (okR_trim _) fun j hj => ?_
  rw [g_trim, g_add]
  have a := rw_len hp i
  have b := rw_len hp (i - 1)
  rw [mul_above (by omega)]
  split
  · rfl
  · rw [mul_above (by omega)]; rfl
theorem mul_ne {r s : List Int} (hr : okR r) (hs : okR s) (nr : r ≠ []) (ns : s ≠ []) : trimI (mulR r s) ≠ [] := fun z => by
  have a := trim_nil_of z
  have lr := List.length_pos_iff.mpr nr
  have ls := List.length_pos_iff.mpr ns
  have e : g (mulR r s) (r.length - 1 + (s.length - 1)) ≠ 0 := by
    rw [g_mul, cv_top (fun i hi => g_none (by omega)) (fun i hi => g_none (by omega))]
    exact Int.mul_ne_zero (okR_last hr nr) (okR_last hs ns)
  rcases Nat.lt_or_ge (r.length - 1 + (s.length - 1)) (mulR r s).length with c | c
  · rw [g_some c] at e; exact e (a _ (List.getElem_mem _))
  · exact e (g_none c)
theorem lineT_lead {p : List (List Int)} {v u : List Int} (lp : 1 ≤ p.length) : rw' (lineT p v u) p.length = trimI (mulR (rw' p (p.length - 1)) u) := by
  rw [lineT_rw (by omega), if_neg (by omega), rw_none (Nat.le_refl _)]
  rfl
theorem lineT_ok {p : List (List Int)} {v u : List Int} (okp : okP p) (np : p ≠ []) (oku : okR u) (nu : u ≠ []) : okP (lineT p v u) := by
  have lp := List.length_pos_iff.mpr np
  refine ⟨fun r hr => ?_, fun r hr e => ?_⟩
  · obtain ⟨i, hi, e⟩ := List.getElem_of_mem hr
    rw [← e, ← rw_some hi, lineT_rw (by rw [← lineT_len p v u]; exact hi)]
    exact okR_trim _
  · rw [List.getLast?_eq_getElem?, lineT_len] at hr
    have h1 : rw' (lineT p v u) p.length = r := by
      unfold rw'
      rw [List.getD_eq_getElem?_getD, show p.length = p.length + 1 - 1 by omega, hr]
      rfl
    obtain ⟨ok1, ne1⟩ := lead_row okp np
    rw [lineT_lead lp, e] at h1
    exact mul_ne ok1 oku ne1 nu h1
theorem lineT_eq {p t : List (List Int)} {v u : List Int} (okp : okP p) (np : p ≠ []) (oku : okR u) (nu : u ≠ []) (okt : okP t) (h : ∀ i j, co t i j = cv2 p [v, u] i j) : t = lineT p v u := by
  refine poly_ext okt (lineT_ok okp np oku nu) fun i j => ?_
  rw [h]
  have e1 : cv2 p [v, u] i j = cv (g (rw' p i)) (g v) j + (if i = 0 then 0 else cv (g (rw' p (i - 1))) (g u) j) := by
    unfold cv2
    cases i with
    | zero =>
      rw [S, S, if_pos rfl, Int.add_zero, Int.zero_add]
      rfl
    | succ i =>
      rw [S, S, if_neg (by omega), S_ext (h := fun _ => 0) i fun a ha => ?_, S_zero, Int.zero_add, Int.add_comm]
      · congr 1
        · rw [Nat.sub_self]; rfl
        · rw [show i + 1 - i = 1 by omega, Nat.add_sub_cancel]; rfl
      · obtain ⟨d, hd⟩ : ∃ d, i + 1 - a = d + 2 := ⟨i - 1 - a, by omega⟩
        rw [hd, cv_comm]
        exact cv_zero (fun k => rfl) j
  rw [e1]
  rcases Nat.lt_or_ge i (p.length + 1) with c | c
  · rw [co_rw (lineT p v u), lineT_rw c, g_trim, g_add, g_mul]
    split
    · rfl
    · rw [g_mul]
  · rw [co_none (by rw [lineT_len]; exact c), rw_none (p := p) (k := i) (by omega), if_neg (by omega), rw_none (p := p) (k := i - 1) (by omega), cv_zero (f := g []) (fun k => rfl), cv_zero (f := g []) (fun k => rfl)]; rfl
def sumTo (f : Nat → Nat) : Nat → Nat
  | 0 => 0
  | n + 1 => sumTo f n + f n
theorem sum_range (f : Nat → Nat) : ∀ n, ((List.range n).map f).sum = sumTo f n
  | 0 => rfl
  | n + 1 => by rw [List.range_succ, List.map_append, List.sum_append, sum_range f n]; simp [sumTo]
theorem sumN_to (p : List (List Int)) : sumN p = sumTo (fun i => nm (rw' p i)) p.length := by
  rw [← sum_range]
  unfold sumN
  congr 1
  refine List.ext_getElem (by simp) fun i h1 h2 => ?_
  rw [List.getElem_map, List.getElem_map, List.getElem_range, rw_some]
theorem lineT_nm {p : List (List Int)} {v u : List Int} : sumN (lineT p v u) ≤ sumN p * (nm v + nm u) := by
  have key : ∀ n, n ≤ p.length + 1 → sumTo (fun i => nm (rw' (lineT p v u) i)) n ≤ sumTo (fun i => nm (rw' p i)) n * nm v + sumTo (fun i => nm (rw' p i)) (n - 1) * nm u := fun n => by
    induction n with
    | zero => intro _; simp [sumTo]
    | succ n ih =>
      intro hn
      have ih := ih (by omega)
      have h1 : nm (rw' (lineT p v u) n) ≤ nm (rw' p n) * nm v + (if n = 0 then 0 else nm (rw' p (n - 1)) * nm u) := by
        rw [lineT_rw (by omega)]
        refine Nat.le_trans (nm_trim _) (Nat.le_trans (nm_add _ _) (Nat.add_le_add (nm_mul _ _) ?_))
        split
        · exact Nat.le_refl _
        · exact nm_mul _ _
      rw [sumTo, sumTo, Nat.add_mul, Nat.add_sub_cancel]
      cases n with
      | zero => simp [sumTo] at h1 ih ⊢; omega
      | succ n =>
        rw [if_neg (by omega), Nat.add_sub_cancel] at h1
        rw [Nat.add_sub_cancel] at ih
        rw [sumTo.eq_def (fun i => nm (rw' p i)) (n + 1)]
        rw [sumTo.eq_def (fun i => nm (rw' p i)) (n + 1)] at ih
        dsimp only at ih ⊢
        rw [Nat.add_mul, Nat.add_mul]
        rw [Nat.add_mul] at ih
        omega
  have k := key (p.length + 1) (Nat.le_refl _)
  rw [sumTo.eq_def (fun i => nm (rw' p i)) (p.length + 1)] at k
  dsimp only at k
  rw [Nat.add_sub_cancel, rw_none (p := p) (Nat.le_refl _), ← sumN_to p] at k
  rw [sumN_to (lineT p v u), lineT_len, Nat.mul_add]
  simpa [nm] using k
/-! discriminants of products of lines -/
/-- the numbers of by times the first k lines -/
def Fx (c : Int) (U V : Nat → Int) : Nat → Nat → Int
  | 0, i => if i = 0 then c else 0
  | k + 1, i => Fx c U V k i * V k + (if i = 0 then 0 else Fx c U V k (i - 1) * U k)
def gapI (U V : Nat → Int) (k n : Nat) : Int := U k * V n - V k * U n
def gapsI (U V : Nat → Int) (k : Nat) : Nat → Int
  | 0 => 1
  | n + 1 => gapsI U V k n * gapI U V k n * gapI U V k n
def dueI (U V : Nat → Int) : Nat → Int
  | 0 => 1
  | k + 1 => dueI U V k * gapsI U V k k
theorem D2_line (b0 a0 V U : Int) : D2 (a0 * U) (a0 * V + b0 * U) (b0 * V) = (b0 * U - a0 * V) ^ 2 := by unfold D2; grind
theorem D3_line (c b a V U : Int) : D3 (a * U) (a * V + b * U) (b * V + c * U) (c * V) = D2 a b c * (a * V ^ 2 - b * V * U + c * U ^ 2) ^ 2 := by unfold D3 D2; grind
theorem D4_line (d c b a V U : Int) : D4 (a * U) (a * V + b * U) (b * V + c * U) (c * V + d * U) (d * V) = D3 a b c d * (a * V ^ 3 - b * V ^ 2 * U + c * V * U ^ 2 - d * U ^ 3) ^ 2 := by unfold D4 D3; grind
theorem lines1 (c : Int) (U V : Nat → Int) : (DEn 1).int (Fx c U V 1) = 1 := DE1_int _
theorem lines2 (c : Int) (U V : Nat → Int) : (DEn 2).int (Fx c U V 2) = c ^ 2 * dueI U V 2 := by
  show DE2.int _ = _
  rw [DE2_int]
  have h := D2_line (c * V 0) (c * U 0) (V 1) (U 1)
  have e : D2 (Fx c U V 2 2) (Fx c U V 2 1) (Fx c U V 2 0) = D2 (c * U 0 * U 1) (c * U 0 * V 1 + c * V 0 * U 1) (c * V 0 * V 1) := by
    simp [Fx]
  rw [e, h]
  simp only [dueI, gapsI, gapI]
  grind
theorem lines3 (c : Int) (U V : Nat → Int) : (DEn 3).int (Fx c U V 3) = c ^ 4 * dueI U V 3 := by
  have h2 := lines2 c U V
  show DE3.int _ = _
  rw [show (DEn 2).int (Fx c U V 2) = D2 (Fx c U V 2 2) (Fx c U V 2 1) (Fx c U V 2 0) from DE2_int _] at h2
  rw [DE3_int]
  have h := D3_line (Fx c U V 2 0) (Fx c U V 2 1) (Fx c U V 2 2) (V 2) (U 2)
  have z : Fx c U V 2 3 = 0 := by simp [Fx]
  have e : D3 (Fx c U V 3 3) (Fx c U V 3 2) (Fx c U V 3 1) (Fx c U V 3 0) = D3 (Fx c U V 2 2 * U 2) (Fx c U V 2 2 * V 2 + Fx c U V 2 1 * U 2) (Fx c U V 2 1 * V 2 + Fx c U V 2 0 * U 2) (Fx c U V 2 0 * V 2) := by
    rw [Fx.eq_def c U V 3 3, Fx.eq_def c U V 3 2, Fx.eq_def c U V 3 1, Fx.eq_def c U V 3 0]
    simp [z]
  have r : Fx c U V 2 2 * V 2 ^ 2 - Fx c U V 2 1 * V 2 * U 2 + Fx c U V 2 0 * U 2 ^ 2 = c * gapI U V 2 0 * gapI U V 2 1 := by
    simp [Fx, gapI]
    grind
  rw [e, h, h2, r]
  simp only [dueI, gapsI]
  generalize gapI U V 2 0 = x
  generalize gapI U V 2 1 = y
  grind
theorem lines4 (c : Int) (U V : Nat → Int) : (DEn 4).int (Fx c U V 4) = c ^ 6 * dueI U V 4 := by
  have h3 := lines3 c U V
  show DE4.int _ = _
  rw [show (DEn 3).int (Fx c U V 3) = D3 (Fx c U V 3 3) (Fx c U V 3 2) (Fx c U V 3 1) (Fx c U V 3 0) from DE3_int _] at h3
  rw [DE4_int]
  have h := D4_line (Fx c U V 3 0) (Fx c U V 3 1) (Fx c U V 3 2) (Fx c U V 3 3) (V 3) (U 3)
  have z : Fx c U V 3 4 = 0 := by simp [Fx]
  have e : D4 (Fx c U V 4 4) (Fx c U V 4 3) (Fx c U V 4 2) (Fx c U V 4 1) (Fx c U V 4 0) = D4 (Fx c U V 3 3 * U 3) (Fx c U V 3 3 * V 3 + Fx c U V 3 2 * U 3) (Fx c U V 3 2 * V 3 + Fx c U V 3 1 * U 3) (Fx c U V 3 1 * V 3 + Fx c U V 3 0 * U 3) (Fx c U V 3 0 * V 3) := by
    rw [Fx.eq_def c U V 4 4, Fx.eq_def c U V 4 3, Fx.eq_def c U V 4 2, Fx.eq_def c U V 4 1, Fx.eq_def c U V 4 0]
    simp [z]
  have r : Fx c U V 3 3 * V 3 ^ 3 - Fx c U V 3 2 * V 3 ^ 2 * U 3 + Fx c U V 3 1 * V 3 * U 3 ^ 2 - Fx c U V 3 0 * U 3 ^ 3 = -(c * gapI U V 3 0 * gapI U V 3 1 * gapI U V 3 2) := by
    simp [Fx, gapI]
    grind
  rw [e, h, h3, r]
  simp only [dueI, gapsI]
  generalize gapI U V 3 0 = x
  generalize gapI U V 3 1 = y
  generalize gapI U V 3 2 = y2
  grind
theorem linesn {k : Nat} (h2 : 2 ≤ k) (h4 : k ≤ 4) (c : Int) (U V : Nat → Int) : (DEn k).int (Fx c U V k) = c ^ (2 * k - 2) * dueI U V k := by
  match k, h2, h4 with
  | 2, _, _ => exact lines2 c U V
  | 3, _, _ => exact lines3 c U V
  | 4, _, _ => exact lines4 c U V
end K27

set_option Elab.async false
set_option linter.all false
set_option maxRecDepth 100000
set_option maxHeartbeats 8000000
local macro_rules | `(tactic| walk_at "rd") => `(tactic| dsimp only [Evl.tCut, L2.tSeq, L2.tNext, L2.tRet, L2.tRetN, L2.tAsg, L2.gName, L2.tIfS, L2.tDrop, L2.tCons, L2.tNil, L2.tC, L2.tVar, L2.tCB, L2.tAndV, L2.tOrV, L2.tNotV, L2.tB, L2.tTest, L2.tOp, L2.tUn, L2.tNot, L2.tAnd, L2.tOr, L2.tIf, L2.tCall, L2.tTup, L2.tLst, L2.tNotT, L2.tYes, L2.gTup, L2.gCons, L2.gNil, L2.gSub, L2.tBM0, L2.tBM, L2.tWhile, L2.tFor, L2.iRng1, L2.iRng2, L2.tAugS, Tw.iEnumT, L2.tCKw, L2.tAug, L2.ipI, RT.iRevA, L2.iRevR, L2.tPar, L2.tPar3, L2.tSl, L2.tNoPart, L2.tPart, Tw.tRevT, L2.rAdd, L2.rSub, L2.tBits])
namespace K27
open PySem PySem.Spec PyProof.Rows L2 Tw
/-! the law's own rows -/
def rowT (r s : List Int) : List Int := trimI (mulR r s)
def rowA (r s : List Int) : List Int := trimI (addR r s)
def rowS (c : Int) (r : List Int) : List Int := trimI (sclR c r)
def rowL (r s : List Int) : List Int := rowA r (rowS (-1) s)
def allR (c : Int) (rs : List (List Int)) : List Int := rs.foldl rowT [c]
theorem ev_rowT (x : Int) (r s : List Int) : ev x (rowT r s) = ev x r * ev x s := by unfold rowT; rw [ev_trim, ev_mul]
theorem ev_rowA (x : Int) (r s : List Int) : ev x (rowA r s) = ev x r + ev x s := by unfold rowA; rw [ev_trim, ev_add]
theorem ev_rowS (x c : Int) (r : List Int) : ev x (rowS c r) = c * ev x r := by unfold rowS; rw [ev_trim, ev_scl]
theorem ev_rowL (x : Int) (r s : List Int) : ev x (rowL r s) = ev x r - ev x s := by unfold rowL; rw [ev_rowA, ev_rowS]; omega
theorem nm_rowT (r s : List Int) : nm (rowT r s) ≤ nm r * nm s := Nat.le_trans (nm_trim _) (nm_mul _ _)
theorem nm_rowA (r s : List Int) : nm (rowA r s) ≤ nm r + nm s := Nat.le_trans (nm_trim _) (nm_add _ _)
theorem nm_rowS (c : Int) (r : List Int) : nm (rowS c r) ≤ c.natAbs * nm r := Nat.le_trans (nm_trim _) (Nat.le_of_eq (nm_scl _ _))
theorem nm_rowL (r s : List Int) : nm (rowL r s) ≤ nm r + nm s := Nat.le_trans (nm_rowA _ _) (Nat.add_le_add_left (Nat.le_trans (nm_rowS _ _) (by rw [show (-1 : Int).natAbs = 1 from rfl, Nat.one_mul]; exact Nat.le_refl _)) _)
theorem len_rowT (r s : List Int) : (rowT r s).length ≤ r.length + s.length := Nat.le_trans (trim_len _) (mul_len _ _)
theorem len_rowA (r s : List Int) : (rowA r s).length ≤ max r.length s.length := Nat.le_trans (trim_len _) (add_len _ _)
theorem len_rowS (c : Int) (r : List Int) : (rowS c r).length ≤ r.length := Nat.le_trans (trim_len _) (Nat.le_of_eq (scl_len _ _))
theorem len_rowL (r s : List Int) : (rowL r s).length ≤ max r.length s.length := Nat.le_trans (len_rowA _ _) (by have := len_rowS (-1) s; omega)
def spRT' : Sp := fun vs H Q _ => ∃ (u v : V) (r s : List Int), vs = [u, v] ∧ Ro H u r ∧ Ro H v s ∧ r.length ≤ 100 ∧ s.length ≤ 100 ∧ nm r < 2 ^ 900 ∧ nm s < 2 ^ 900 ∧ ∀ z H', Same H H' → Ro H' z (rowT r s) → Q z H'
def spRA' : Sp := fun vs H Q _ => ∃ (u v : V) (r s : List Int), vs = [u, v] ∧ Ro H u r ∧ Ro H v s ∧ r.length ≤ 100 ∧ s.length ≤ 100 ∧ ∀ z H', Same H H' → Ro H' z (rowA r s) → Q z H'
def spRS' : Sp := fun vs H Q _ => ∃ (u : V) (r : List Int) (c : Int), vs = [u, .int c] ∧ Ro H u r ∧ r.length ≤ 100 ∧ c.natAbs < 2 ^ 64 ∧ ∀ z H', Same H H' → Ro H' z (rowS c r) → Q z H'
def spRL' : Sp := fun vs H Q _ => ∃ (u v : V) (r s : List Int), vs = [u, v] ∧ Ro H u r ∧ Ro H v s ∧ r.length ≤ 100 ∧ s.length ≤ 100 ∧ ∀ z H', Same H H' → Ro H' z (rowL r s) → Q z H'
def spAll : Sp := fun vs H Q _ => ∃ (p : Addr) (xs : List V) (rs : List (List Int)) (c : Int), vs = [.int c, .ref p] ∧ H p = some (.lst xs) ∧ RoA H xs rs ∧ rs.length ≤ 4 ∧ 1 + (rs.map List.length).sum ≤ 100 ∧ (∀ r ∈ rs, nm r < 2 ^ 290) ∧ c.natAbs < 2 ^ 10 ∧ ∀ z H', Same H H' → Ro H' z (allR c rs) → Q z H'
def spPick : Sp := fun vs H Q _ => ∃ (a p : Addr) (xs : List V), vs = [.ref a, .ref p] ∧ We a H ∧ H p = some (.tup xs) ∧ xs ≠ [] ∧ xs.length < 1000 ∧ ∀ (i : Nat) x H', xs[i]? = some x → Kp a H H' → We a H' → Q x H'
theorem sb_nm (r : List Int) : SB (nm r) r := fun c hc => nm_mem hc
theorem rt_imp (vs : List V) (H : Hp) (Q : VK) (E : XK) (h : spRT' vs H Q E) : spRTimes vs H Q E := by
  obtain ⟨u, v, r, s, rfl, hu, hv, lr, ls, nr, ns, q⟩ := h
  refine ⟨u, v, r, s, nm r, nm s, rfl, hu, hv, lr, ls, sb_nm r, sb_nm s, ⟨nr, ns⟩, fun z t H' s' rt okt _ _ gt => q z H' s' ?_⟩
  rwa [show rowT r s = t from row_ext (okR_trim _) okt fun k => by unfold rowT; rw [g_trim, g_mul, gt]]
theorem ra_imp (vs : List V) (H : Hp) (Q : VK) (E : XK) (h : spRA' vs H Q E) : spRSum vs H Q E := by
  obtain ⟨u, v, r, s, rfl, hu, hv, lr, ls, q⟩ := h
  refine ⟨u, v, r, s, nm r, nm s, rfl, hu, hv, lr, ls, sb_nm r, sb_nm s, fun z t H' s' rt okt _ _ gt => q z H' s' ?_⟩
  rwa [show rowA r s = t from row_ext (okR_trim _) okt fun k => by unfold rowA; rw [g_trim, g_add, gt]]
theorem rs_imp (vs : List V) (H : Hp) (Q : VK) (E : XK) (h : spRS' vs H Q E) : spLScaled vs H Q E := by
  obtain ⟨u, r, c, rfl, hu, lr, hc, q⟩ := h
  refine ⟨u, r, c, nm r, rfl, hu, lr, hc, sb_nm r, fun z t H' s' rt okt _ _ gt => q z H' s' ?_⟩
  rwa [show rowS c r = t from row_ext (okR_trim _) okt fun k => by unfold rowS; rw [g_trim, g_scl, gt]]
theorem lt_pow_mul {a b x y : Nat} (h : a < 2 ^ x) (k : b < 2 ^ y) : a * b < 2 ^ (x + y) := by
  rw [Nat.pow_add]
  exact Nat.mul_lt_mul_of_lt_of_le h (Nat.le_of_lt k) (Nat.pow_pos (by decide))
theorem mem_le_sum : ∀ {l : List Nat} {a : Nat}, a ∈ l → a ≤ l.sum
  | b :: l, a, h => by
    rw [List.sum_cons]
    rcases List.mem_cons.mp h with rfl | h
    · omega
    · have := mem_le_sum h; omega
theorem allR_take (c : Int) (rs : List (List Int)) (i : Nat) (h : i < rs.length) : allR c (rs.take (i + 1)) = rowT (allR c (rs.take i)) rs[i] := by
  unfold allR
  rw [List.take_add_one, List.getElem?_eq_getElem h, List.foldl_append]
  rfl
theorem allR_nm {c : Int} {rs : List (List Int)} (h : ∀ r ∈ rs, nm r < 2 ^ 290) (hc : c.natAbs < 2 ^ 10) : ∀ i, i ≤ rs.length → nm (allR c (rs.take i)) < 2 ^ (10 + 290 * i)
  | 0, _ => by simpa [allR, nm] using hc
  | i + 1, hi => by
    rw [allR_take c rs i hi]
    have ih := allR_nm h hc i (by omega)
    have := lt_pow_mul ih (h rs[i] (List.getElem_mem _))
    exact Nat.lt_of_le_of_lt (nm_rowT _ _) (by rw [show 10 + 290 * (i + 1) = 10 + 290 * i + 290 by omega]; exact this)
theorem allR_len {c : Int} {rs : List (List Int)} : ∀ i, i ≤ rs.length → (allR c (rs.take i)).length ≤ 1 + (rs.map List.length).sum
  | 0, _ => by simp [allR]
  | i + 1, hi => by
    have key : ∀ i, i ≤ rs.length → (allR c (rs.take i)).length ≤ 1 + ((rs.take i).map List.length).sum := fun i => by
      induction i with
      | zero => intro _; simp [allR]
      | succ i ih =>
        intro hi
        have e : ((rs.take (i + 1)).map List.length).sum = ((rs.take i).map List.length).sum + rs[i].length := by
          rw [List.take_add_one, List.getElem?_eq_getElem hi, List.map_append, List.sum_append]; simp
        rw [allR_take c rs i hi, e]
        have := ih (by omega)
        have := len_rowT (allR c (rs.take i)) rs[i]
        omega
    refine Nat.le_trans (key (i + 1) hi) ?_
    have e : (rs.map List.length).sum = ((rs.take (i + 1)).map List.length).sum + ((rs.drop (i + 1)).map List.length).sum := by
      rw [← List.sum_append, ← List.map_append, List.take_append_drop]
    omega
section
variable {P : Program} {w : World} {K : PySem.W.Frag} {mg : Str → Option Value} {base : Heap}
theorem scAll : FnScope ["_law_by", "_law_some", "_law_made", "_law_each"] ["_law_by", "_law_some"] (defScope sAll) := ⟨rfl, rfl, rfl, by decide +kernel, rfl, by decide +kernel, by decide +kernel⟩
theorem ok_all (D : Def K mg "_law_all" sAll ["_law_by", "_law_some"]) (ct : Cal P w K mg base "_law_row_times" 2 ["_law_one", "_law_two"] spRT') : Cal P w K mg base "_law_all" 3 ["_law_by", "_law_some"] spAll := by
  refine D.ok scAll (fun vs H Q E h => ?_) (fun f cdv A out s H vs Q E hr h => ?_)
  · obtain ⟨p, xs, rs, c, rfl, _⟩ := h; rfl
  obtain ⟨p, xs, rs, c, rfl, ep, ra, l4, l100, hnm, hc, q⟩ := h
  refine ⟨_, pss_cons (ps_set (i := 2) scAll.nd rfl (Or.inl rfl) (pe_tup (pa_cons (pv 0) pa_nil)))
    (pss_cons (ps_for PassesOwn.never rfl (pi_list (pv 1)) (pg_name (i := 3) scAll.nd rfl (Or.inl rfl))
      (pss_one (ps_set (i := 2) scAll.nd rfl (Or.inl rfl) (pe_cal ct hr (by omega) (by rfl) (pa_cons (pv 2) (pa_cons (pv 3) pa_nil))))))
    (pss_one (ps_ret (pv 2)))), ?_⟩
  walk_at "rd"
  refine ⟨_, rfl, sz (by simp), fun p0 n0 => ⟨_, rfl, p, rfl, ⟨_, SqL.of ((same_new n0) _ _ ep)⟩, for_lst (xs := xs) (fun i σ H' => ∃ z x3, σ = [some (.int c), some (.ref p), some z, x3] ∧ Same H H' ∧ Ro H' z (allR c (rs.take i))) ⟨_, _, rfl, same_new n0, p0, rfl, upd_same⟩ (fun i σ' H' _ h => ?_) (fun i x σ' H' hx h => ?_) (fun σ' H' h => ?_)⟩⟩
  · obtain ⟨_, _, _, s', _⟩ := h; exact SqL.of (s' _ _ ep)
  · obtain ⟨z, x3, rfl, s1, rz⟩ := h
    obtain ⟨r, er, rr⟩ := ra.2 i x hx
    have hi : i < rs.length := (List.getElem?_eq_some_iff.mp er).1
    have e2 : rs[i] = r := (List.getElem?_eq_some_iff.mp er).2
    have nmr := hnm rs[i] (List.getElem_mem _)
    refine ⟨z, rfl, x, rfl, z, x, _, r, rfl, rz, rr.kt (Kt.of s1), Nat.le_trans (allR_len i (by omega)) l100, ?_, ?_, ?_, fun y H2 s2 ry => ⟨y, some x, rfl, s1.trans s2, ?_⟩⟩
    · have a := List.getElem_mem (l := rs.map List.length) (n := i) (by rw [List.length_map]; exact hi)
      have b := mem_le_sum a
      rw [List.getElem_map, e2] at b
      omega
    · exact Nat.lt_of_lt_of_le (allR_nm hnm hc i (by omega)) (Nat.pow_le_pow_right (by decide) (by omega))
    · rw [e2] at nmr
      exact Nat.lt_of_lt_of_le nmr (Nat.pow_le_pow_right (by decide) (by decide))
    · rw [allR_take c rs i hi, e2]; exact ry
  · obtain ⟨z, x3, rfl, s1, rz⟩ := h
    rw [ra.1, List.take_length] at rz
    exact ⟨z, rfl, q z H' s1 rz⟩
theorem scRLess : FnScope ["_law_one", "_law_two"] ["_law_one", "_law_two"] (defScope sRLess) := ⟨rfl, rfl, rfl, by decide +kernel, rfl, by decide +kernel, by decide +kernel⟩
theorem ok_less (D : Def K mg "_law_row_less" sRLess ["_law_one", "_law_two"]) (ca : Cal P w K mg base "_law_row_sum" 2 ["_law_one", "_law_two"] spRA') (cs : Cal P w K mg base "_law_scaled" 2 ["_law_row_here", "_law_by"] spRS') : Cal P w K mg base "_law_row_less" 3 ["_law_one", "_law_two"] spRL' := by
  refine D.ok scRLess (fun vs H Q E h => ?_) (fun f cdv A out s H vs Q E hr h => ?_)
  · obtain ⟨u, v, r, s, rfl, _⟩ := h; rfl
  obtain ⟨u, v, r, s, rfl, hu, hv, lr, ls, q⟩ := h
  refine ⟨_, pss_one (ps_ret (pe_cal ca hr (by omega) (by rfl) (pa_cons (pv 0) (pa_cons (pe_cal cs hr (by omega) (by rfl) (pa_cons (pv 1) (pa_cons (pe_un un_neg pe_int) pa_nil))) pa_nil)))), ?_⟩
  walk_at "rd"
  refine ⟨u, rfl, v, rfl, _, rfl, v, s, -1, rfl, hv, ls, by decide, fun z H1 s1 rz => ⟨u, z, r, rowS (-1) s, rfl, hu.kt (Kt.of s1), rz, lr, Nat.le_trans (len_rowS _ _) ls, fun y H2 s2 ry => q y H2 (s1.trans s2) ry⟩⟩
theorem scPick : FnScope ["_law_well_here", "_law_some"] ["_law_well_here", "_law_some"] (defScope sPick) := ⟨rfl, rfl, rfl, by decide +kernel, rfl, by decide +kernel, by decide +kernel⟩
theorem ok_pick27 (D : Def K mg "_law_pick" sPick ["_law_well_here", "_law_some"]) (nb : Nb mg) (cd : Cal P w K mg base "_law_draw" 1 ["_law_well_here", "_law_many"] spDraw) : Cal P w K mg base "_law_pick" 2 ["_law_well_here", "_law_some"] spPick := by
  refine D.ok scPick (fun vs H Q E h => ?_) (fun f cdv A out s H vs Q E hr h => ?_)
  · obtain ⟨a, p, xs, rfl, _⟩ := h; rfl
  obtain ⟨a, p, xs, rfl, hw, hp, hx, lx, q⟩ := h
  refine ⟨_, pss_one (ps_ret (pe_ix (r := rIxT K) ix_tup (pv 1) (pe_cal cd hr (by omega) (by rfl) (pa_cons (pv 0) (pa_cons (pe_callB (id := "len") (r := rLn K) call_len_seq (by rfl) nb.len PySem.boot_len (pa_cons (pv 1) pa_nil)) pa_nil))) (fun _ _ => rfl))), ?_⟩
  walk_at "rd"
  have hl := List.length_pos_iff.mpr hx
  refine ⟨_, rfl, _, rfl, _, rfl, p, xs, rfl, .inr (SqT.of hp), a, _, rfl, hw, by omega, by omega, fun d H1 d0 d1 k1 w1 => ?_⟩
  obtain ⟨d, rfl⟩ : ∃ m : Nat, d = (m : Int) := ⟨d.toNat, by omega⟩
  have hd : d < xs.length := by omega
  have hpa : p ≠ a := We.nt hw hp
  exact ⟨p, xs, _, _, rfl, rfl, SqT.of (k1 _ _ hpa hp), atI_nat (List.getElem?_eq_getElem hd), q d _ H1 (List.getElem?_eq_getElem hd) k1 w1⟩
end
end K27

set_option Elab.async false
set_option linter.all false
set_option maxRecDepth 100000
set_option maxHeartbeats 8000000
local macro_rules | `(tactic| walk_at "rd") => `(tactic| dsimp only [Evl.tCut, L2.tSeq, L2.tNext, L2.tRet, L2.tRetN, L2.tAsg, L2.gName, L2.tIfS, L2.tDrop, L2.tCons, L2.tNil, L2.tC, L2.tVar, L2.tCB, L2.tAndV, L2.tOrV, L2.tNotV, L2.tB, L2.tTest, L2.tOp, L2.tUn, L2.tNot, L2.tAnd, L2.tOr, L2.tIf, L2.tCall, L2.tTup, L2.tLst, L2.tNotT, L2.tYes, L2.gTup, L2.gCons, L2.gNil, L2.gSub, L2.tBM0, L2.tBM, L2.tWhile, L2.tFor, L2.iRng1, L2.iRng2, L2.tAugS, Tw.iEnumT, L2.tCKw, L2.tAug, L2.ipI, RT.iRevA, L2.iRevR, L2.tPar, L2.tPar3, L2.tSl, L2.tNoPart, L2.tPart, Tw.tRevT, L2.rAdd, L2.rSub, L2.tBits])
namespace K27
open PySem PySem.Spec PyProof.Rows L2 Tw
/-! the law's formulas -/
def formR (p : List (List Int)) : List Int :=
  if p.length = 2 then [1] else
  if p.length = 3 then rowA (allR 1 [rw' p 1, rw' p 1]) (allR (-4) [rw' p 2, rw' p 0]) else
  rowA (rowA (rowA (rowA (allR 1 [rw' p 2, rw' p 2, rw' p 1, rw' p 1]) (allR (-4) [rw' p 3, rw' p 1, rw' p 1, rw' p 1])) (allR (-4) [rw' p 2, rw' p 2, rw' p 2, rw' p 0])) (allR (-27) [rw' p 3, rw' p 3, rw' p 0, rw' p 0])) (allR 18 [rw' p 3, rw' p 2, rw' p 1, rw' p 0])
def spForm : Sp := fun vs H Q _ => ∃ (u : V) (p : List (List Int)), vs = [u] ∧ Po H u p ∧ 2 ≤ p.length ∧ p.length ≤ 4 ∧ (∀ r ∈ p, r.length ≤ 8) ∧ (∀ r ∈ p, nm r < 2 ^ 290) ∧ ∀ z H', Same H H' → Ro H' z (formR p) → Q z H'
theorem all_mk {H : Hp} {p : Addr} {xs : List V} {rs : List (List Int)} {c : Int} {Q : VK} {E : XK} (np : H p = none) (ra : RoA H xs rs) (l4 : rs.length ≤ 4) (l8 : ∀ r ∈ rs, r.length ≤ 8 ∧ nm r < 2 ^ 290) (hc : c.natAbs < 2 ^ 10)
    (q : ∀ z H', Same H H' → Ro H' z (allR c rs) → (allR c rs).length ≤ 33 → Q z H') : spAll [.int c, .ref p] (upd H p (.lst xs)) Q E := by
  have hs : (rs.map List.length).sum ≤ 8 * rs.length := by
    clear q ra l4
    induction rs with
    | nil => simp
    | cons r rs ih =>
      have := (l8 r (List.mem_cons_self ..)).1
      have := ih fun x hx => l8 x (List.mem_cons_of_mem _ hx)
      rw [List.map_cons, List.sum_cons, List.length_cons]
      omega
  refine ⟨p, xs, rs, c, rfl, upd_same, ra.kt (Kt.of (same_new np)), l4, by omega, fun r hr => (l8 r hr).2, hc, fun z H' s rz => q z H' ((same_new np).trans s) rz ?_⟩
  have := allR_len (c := c) (rs := rs) rs.length (Nat.le_refl _)
  rw [List.take_length] at this
  omega
theorem ro_cons {H : Hp} {v : V} {r : List Int} {xs : List V} {rs : List (List Int)} (h : Ro H v r) (t : RoA H xs rs) : RoA H (v :: xs) (r :: rs) := ⟨by rw [List.length_cons, List.length_cons, t.1], fun i x e => by
  cases i with
  | zero => injection e with e; subst e; exact ⟨r, rfl, h⟩
  | succ i => exact t.2 i x e⟩
section
variable {P : Program} {w : World} {K : PySem.W.Frag} {mg : Str → Option Value} {base : Heap}
theorem scForm : FnScope ["_law_one", "_law_d", "_law_c", "_law_b", "_law_a", "_law_made"] ["_law_one"] (defScope sForm) := ⟨rfl, rfl, rfl, by decide +kernel, rfl, by decide +kernel, by decide +kernel⟩
theorem ok_form (D : Def K mg "_law_formula" sForm ["_law_one"]) (nb : Nb mg) (cl : Cal P w K mg base "_law_all" 3 ["_law_by", "_law_some"] spAll) (ca : Cal P w K mg base "_law_row_sum" 2 ["_law_one", "_law_two"] spRA') : Cal P w K mg base "_law_formula" 4 ["_law_one"] spForm := by
  refine D.ok scForm (fun vs H Q E h => ?_) (fun f cdv A out s H vs Q E hr h => ?_)
  · obtain ⟨u, p, rfl, _⟩ := h; rfl
  obtain ⟨u, p, rfl, ⟨pu, xs, rfl, eu, ru⟩, l2, l4, lr, hn, q⟩ := h
  refine ⟨_, Evl.pss_cut (ps_if (pt_cmpR op_eq (pe_callB (id := "len") (r := rLn K) call_len_seq (by rfl) nb.len PySem.boot_len (pa_cons (pv 0) pa_nil)) pe_int (nomark _))
      (pss_one (ps_ret (pe_tup (pa_cons pe_int pa_nil))))
      (pss_nil))
    (Evl.pss_cut (ps_if (pt_cmpR op_eq (pe_callB (id := "len") (r := rLn K) call_len_seq (by rfl) nb.len PySem.boot_len (pa_cons (pv 0) pa_nil)) pe_int (nomark _))
      (pss_one (ps_ret (pe_cal ca hr (by omega) (by rfl) (pa_cons (pe_cal cl hr (by omega) (by rfl) (pa_cons pe_int (pa_cons (pe_lst (pa_cons (pe_ix (r := rIxT K) ix_tup (pv 0) pe_int (fun _ _ => rfl)) (pa_cons (pe_ix (r := rIxT K) ix_tup (pv 0) pe_int (fun _ _ => rfl)) pa_nil))) pa_nil))) (pa_cons (pe_cal cl hr (by omega) (by rfl) (pa_cons (pe_un un_neg pe_int) (pa_cons (pe_lst (pa_cons (pe_ix (r := rIxT K) ix_tup (pv 0) pe_int (fun _ _ => rfl)) (pa_cons (pe_ix (r := rIxT K) ix_tup (pv 0) pe_int (fun _ _ => rfl)) pa_nil))) pa_nil))) pa_nil)))))
      (pss_nil))
    (Evl.pss_cut (ps_asg (pv 0) (pg_tup rfl (pgs_cons (pg_name (i := 1) scForm.nd rfl (Or.inl rfl)) (pgs_cons (pg_name (i := 2) scForm.nd rfl (Or.inl rfl)) (pgs_cons (pg_name (i := 3) scForm.nd rfl (Or.inl rfl)) (pgs_cons (pg_name (i := 4) scForm.nd rfl (Or.inl rfl)) pgs_nil))))))
    (Evl.pss_cut (ps_set (i := 5) scForm.nd rfl (Or.inl rfl) (pe_cal ca hr (by omega) (by rfl) (pa_cons (pe_cal cl hr (by omega) (by rfl) (pa_cons pe_int (pa_cons (pe_lst (pa_cons (pv 3) (pa_cons (pv 3) (pa_cons (pv 2) (pa_cons (pv 2) pa_nil))))) pa_nil))) (pa_cons (pe_cal cl hr (by omega) (by rfl) (pa_cons (pe_un un_neg pe_int) (pa_cons (pe_lst (pa_cons (pv 4) (pa_cons (pv 2) (pa_cons (pv 2) (pa_cons (pv 2) pa_nil))))) pa_nil))) pa_nil))))
    (Evl.pss_cut (ps_set (i := 5) scForm.nd rfl (Or.inl rfl) (pe_cal ca hr (by omega) (by rfl) (pa_cons (pv 5) (pa_cons (pe_cal cl hr (by omega) (by rfl) (pa_cons (pe_un un_neg pe_int) (pa_cons (pe_lst (pa_cons (pv 3) (pa_cons (pv 3) (pa_cons (pv 3) (pa_cons (pv 1) pa_nil))))) pa_nil))) pa_nil))))
    (pss_one (ps_ret (pe_cal ca hr (by omega) (by rfl) (pa_cons (pe_cal ca hr (by omega) (by rfl) (pa_cons (pv 5) (pa_cons (pe_cal cl hr (by omega) (by rfl) (pa_cons (pe_un un_neg pe_int) (pa_cons (pe_lst (pa_cons (pv 4) (pa_cons (pv 4) (pa_cons (pv 1) (pa_cons (pv 1) pa_nil))))) pa_nil))) pa_nil))) (pa_cons (pe_cal cl hr (by omega) (by rfl) (pa_cons pe_int (pa_cons (pe_lst (pa_cons (pv 4) (pa_cons (pv 3) (pa_cons (pv 2) (pa_cons (pv 1) pa_nil))))) pa_nil))) pa_nil))))))))), ?_⟩
  walk_at "rd"
  have at_ : ∀ {H' : Hp} {k : Nat} {Q : VK}, Same H H' → k < p.length → (∀ v, Ro H' v (rw' p k) → Q v H') → rIxT K (.ref pu) (.int ((k : Nat) : Int)) H' Q := fun {H' k Q} s' hk hq => by
    obtain ⟨v, ev, rv⟩ := ru.get hk
    rw [← rw_some hk] at rv
    exact ⟨pu, xs, _, v, rfl, rfl, SqT.of (s' _ _ eu), atI_nat ev, hq v (rv.kt (Kt.of s'))⟩
  have pr : ∀ {k : Nat}, k < p.length → (rw' p k).length ≤ 8 ∧ nm (rw' p k) < 2 ^ 290 := fun hk => ⟨lr _ (mem_len hk), hn _ (mem_len hk)⟩
  by_cases c2 : p.length = 2
  · refine ⟨fun _ _ => False, ?_, fun _ _ h => h.elim⟩
    refine ⟨_, rfl, pu, xs, rfl, .inr (SqT.of eu), rfl, true, ?_, iteT ⟨sz (by simp), fun l nl => q _ _ (same_new nl) ⟨l, rfl, ?_⟩⟩⟩
    · rw [ru.1, c2]; rfl
    · unfold formR
      rw [if_pos c2, upd_same]
      rfl
  refine ⟨fun σ H' => σ = [some (.ref pu), none, none, none, none, none] ∧ H' = H, ?_, ?_⟩
  · refine ⟨_, rfl, pu, xs, rfl, .inr (SqT.of eu), rfl, false, ?_, iteF ⟨rfl, rfl⟩⟩
    rw [decide_eq_false]
    intro z
    injection z with z
    rw [ru.1] at z
    omega
  rintro σ1 H1 ⟨rfl, rfl⟩
  by_cases c3 : p.length = 3
  · refine ⟨fun _ _ => False, ?_, fun _ _ h => h.elim⟩
    refine ⟨_, rfl, pu, xs, rfl, .inr (SqT.of eu), rfl, true, ?_, iteT ?_⟩
    · rw [ru.1, c3]; rfl
    refine ⟨_, rfl, at_ (k := 1) (Same.refl _) (by omega) fun v1 r1 => ⟨_, rfl, at_ (k := 1) (Same.refl _) (by omega) fun v2 r2 => ⟨sz (by simp), fun l nl => ?_⟩⟩⟩
    refine all_mk nl (ro_cons r1 (ro_cons r2 (.nil _))) (by simp) (fun r hr => ?_) (by decide) fun z1 Ha sa rz1 ll1 => ?_
    · simp only [List.mem_cons, List.not_mem_nil, or_false] at hr
      rcases hr with rfl | rfl <;> exact pr (by omega)
    refine ⟨_, rfl, _, rfl, at_ (k := 2) sa (by omega) fun v3 r3 => ⟨_, rfl, at_ (k := 0) sa (by omega) fun v4 r4 => ⟨sz (by simp), fun l2 nl2 => ?_⟩⟩⟩
    refine all_mk nl2 (ro_cons r3 (ro_cons r4 (.nil _))) (by simp) (fun r hr => ?_) (by decide) fun z2 Hb sb rz2 ll2 => ?_
    · simp only [List.mem_cons, List.not_mem_nil, or_false] at hr
      rcases hr with rfl | rfl <;> exact pr (by omega)
    refine ⟨z1, z2, _, _, rfl, rz1.kt (Kt.of sb), rz2, by omega, by omega, fun z3 Hc sc rz3 => q z3 Hc (sa.trans (sb.trans sc)) ?_⟩
    unfold formR
    rw [if_neg c2, if_pos c3]
    exact rz3
  refine ⟨fun σ H' => σ = [some (.ref pu), none, none, none, none, none] ∧ H' = H1, ?_, ?_⟩
  · refine ⟨_, rfl, pu, xs, rfl, .inr (SqT.of eu), rfl, false, ?_, iteF ⟨rfl, rfl⟩⟩
    rw [decide_eq_false]
    intro z
    injection z with z
    rw [ru.1] at z
    omega
  rintro σ2 H2 ⟨rfl, rfl⟩
  have l4' : p.length = 4 := by omega
  obtain ⟨v0, v1, v2, v3, rfl⟩ : ∃ v0 v1 v2 v3, xs = [v0, v1, v2, v3] := by
    have := ru.1
    rw [l4'] at this
    match xs, this with
    | [a, b, c, d], _ => exact ⟨a, b, c, d, rfl⟩
  have rr : ∀ {k : Nat} {v : V}, [v0, v1, v2, v3][k]? = some v → Ro H2 v (rw' p k) := fun {k v} e => by
    obtain ⟨r, er, hr'⟩ := ru.2 k v e
    have hk : k < p.length := (List.getElem?_eq_some_iff.mp er).1
    rw [rw_some hk, (List.getElem?_eq_some_iff.mp er).2]
    exact hr'
  have q0 := rr (k := 0) rfl
  have q1 := rr (k := 1) rfl
  have q2 := rr (k := 2) rfl
  have q3 := rr (k := 3) rfl
  have prm : ∀ {i j k l : Nat} {r : List Int}, i < p.length → j < p.length → k < p.length → l < p.length → r ∈ [rw' p i, rw' p j, rw' p k, rw' p l] → r.length ≤ 8 ∧ nm r < 2 ^ 290 := fun {i j k l r} hi hj hk hl hr => by
    simp only [List.mem_cons, List.not_mem_nil, or_false] at hr
    rcases hr with rfl | rfl | rfl | rfl
    · exact pr hi
    · exact pr hj
    · exact pr hk
    · exact pr hl
  refine ⟨fun σ H' => σ = [some (.ref pu), some v0, some v1, some v2, some v3, none] ∧ H' = H2, ?_, ?_⟩
  · exact ⟨_, rfl, pu, _, rfl, SqT.of eu, rfl, _, _, rfl, _, _, rfl, _, _, rfl, _, _, rfl, rfl, rfl, rfl⟩
  rintro σ3 H3 ⟨rfl, rfl⟩
  refine ⟨fun σ H' => ∃ z, σ = [some (.ref pu), some v0, some v1, some v2, some v3, some z] ∧ Same H3 H' ∧ Ro H' z (rowA (allR 1 [rw' p 2, rw' p 2, rw' p 1, rw' p 1]) (allR (-4) [rw' p 3, rw' p 1, rw' p 1, rw' p 1])), ?_, ?_⟩
  · refine ⟨_, rfl, _, rfl, _, rfl, _, rfl, sz (by simp), fun l nl => ?_⟩
    refine all_mk nl (ro_cons q2 (ro_cons q2 (ro_cons q1 (ro_cons q1 (.nil _))))) (by simp) (fun r hr => prm (by omega) (by omega) (by omega) (by omega) hr) (by decide) fun z1 Ha sa rz1 ll1 => ?_
    refine ⟨_, rfl, _, rfl, _, rfl, _, rfl, _, rfl, sz (by simp), fun l2 nl2 => ?_⟩
    refine all_mk nl2 (ro_cons (q3.kt (Kt.of sa)) (ro_cons (q1.kt (Kt.of sa)) (ro_cons (q1.kt (Kt.of sa)) (ro_cons (q1.kt (Kt.of sa)) (.nil _))))) (by simp) (fun r hr => prm (by omega) (by omega) (by omega) (by omega) hr) (by decide) fun z2 Hb sb rz2 ll2 => ?_
    exact ⟨z1, z2, _, _, rfl, rz1.kt (Kt.of sb), rz2, by omega, by omega, fun z3 Hc sc rz3 => ⟨z3, rfl, sa.trans (sb.trans sc), rz3⟩⟩
  rintro σ4 H4 ⟨z, rfl, s4, rz⟩
  have lA : (rowA (allR 1 [rw' p 2, rw' p 2, rw' p 1, rw' p 1]) (allR (-4) [rw' p 3, rw' p 1, rw' p 1, rw' p 1])).length ≤ 100 := by
    have a := len_rowA (allR 1 [rw' p 2, rw' p 2, rw' p 1, rw' p 1]) (allR (-4) [rw' p 3, rw' p 1, rw' p 1, rw' p 1])
    have b := allR_len (c := 1) (rs := [rw' p 2, rw' p 2, rw' p 1, rw' p 1]) 4 (by simp)
    have c := allR_len (c := -4) (rs := [rw' p 3, rw' p 1, rw' p 1, rw' p 1]) 4 (by simp)
    have h1 := (pr (k := 1) (by omega)).1
    have h2 := (pr (k := 2) (by omega)).1
    have h3 := (pr (k := 3) (by omega)).1
    simp at b c
    omega
  refine ⟨fun σ H' => ∃ z, σ = [some (.ref pu), some v0, some v1, some v2, some v3, some z] ∧ Same H3 H' ∧ Ro H' z (rowA (rowA (allR 1 [rw' p 2, rw' p 2, rw' p 1, rw' p 1]) (allR (-4) [rw' p 3, rw' p 1, rw' p 1, rw' p 1])) (allR (-4) [rw' p 2, rw' p 2, rw' p 2, rw' p 0])) ∧ (rowA (rowA (allR 1 [rw' p 2, rw' p 2, rw' p 1, rw' p 1]) (allR (-4) [rw' p 3, rw' p 1, rw' p 1, rw' p 1])) (allR (-4) [rw' p 2, rw' p 2, rw' p 2, rw' p 0])).length ≤ 100, ?_, ?_⟩
  · refine ⟨_, rfl, _, rfl, _, rfl, _, rfl, _, rfl, _, rfl, sz (by simp), fun l2 nl2 => ?_⟩
    refine all_mk nl2 (ro_cons (q2.kt (Kt.of s4)) (ro_cons (q2.kt (Kt.of s4)) (ro_cons (q2.kt (Kt.of s4)) (ro_cons (q0.kt (Kt.of s4)) (.nil _))))) (by simp) (fun r hr => prm (by omega) (by omega) (by omega) (by omega) hr) (by decide) fun z2 Hb sb rz2 ll2 => ?_
    refine ⟨z, z2, _, _, rfl, rz.kt (Kt.of sb), rz2, lA, by omega, fun z3 Hc sc rz3 => ⟨z3, rfl, s4.trans (sb.trans sc), rz3, Nat.le_trans (len_rowA _ _) (by omega)⟩⟩
  rintro σ5 H5 ⟨z5, rfl, s5, rz5, l5⟩
  refine ⟨_, rfl, _, rfl, _, rfl, _, rfl, _, rfl, _, rfl, sz (by simp), fun l2 nl2 => ?_⟩
  refine all_mk nl2 (ro_cons (q3.kt (Kt.of s5)) (ro_cons (q3.kt (Kt.of s5)) (ro_cons (q0.kt (Kt.of s5)) (ro_cons (q0.kt (Kt.of s5)) (.nil _))))) (by simp) (fun r hr => prm (by omega) (by omega) (by omega) (by omega) hr) (by decide) fun z2 Hb sb rz2 ll2 => ?_
  refine ⟨z5, z2, _, _, rfl, rz5.kt (Kt.of sb), rz2, l5, by omega, fun z3 Hc sc rz3 => ?_⟩
  have s6 := s5.trans (sb.trans sc)
  refine ⟨_, rfl, _, rfl, _, rfl, _, rfl, sz (by simp), fun l3 nl3 => ?_⟩
  refine all_mk nl3 (ro_cons (q3.kt (Kt.of s6)) (ro_cons (q2.kt (Kt.of s6)) (ro_cons (q1.kt (Kt.of s6)) (ro_cons (q0.kt (Kt.of s6)) (.nil _))))) (by simp) (fun r hr => prm (by omega) (by omega) (by omega) (by omega) hr) (by decide) fun z4 Hd sd rz4 ll4 => ?_
  refine ⟨z3, z4, _, _, rfl, rz3.kt (Kt.of sd), rz4, Nat.le_trans (len_rowA _ _) (by omega), by omega, fun z6 He se rz6 => q z6 He (s6.trans (sd.trans se)) ?_⟩
  unfold formR
  rw [if_neg c2, if_neg c3]
  exact rz6
end
end K27

set_option Elab.async false
set_option linter.all false
set_option maxRecDepth 100000
set_option maxHeartbeats 8000000
/-! what the law draws: lines, their product, the product of the squares of their gaps -/
namespace K27
abbrev Lin := List Int × List Int
def uu (ls : List Lin) (k : Nat) : List Int := (ls.getD k ([], [])).1
def vv (ls : List Lin) (k : Nat) : List Int := (ls.getD k ([], [])).2
def polyK (c : Int) (ls : List Lin) : Nat → List (List Int)
  | 0 => [[c]]
  | k + 1 => lineT (polyK c ls k) (vv ls k) (uu ls k)
def gapR (ls : List Lin) (k n : Nat) : List Int := rowL (rowT (uu ls k) (vv ls n)) (rowT (vv ls k) (uu ls n))
def stepR (ls : List Lin) (k : Nat) (d : List Int) : Nat → List Int
  | 0 => d
  | n + 1 => allR 1 [stepR ls k d n, gapR ls k n, gapR ls k n]
def dueK (ls : List Lin) : Nat → List Int
  | 0 => [1]
  | k + 1 => stepR ls k (dueK ls k) k
def scN (c : Int) (d : List Int) : Nat → List Int
  | 0 => d
  | n + 1 => rowS c (scN c d n)
theorem ev_all (x : Int) (c : Int) (rs : List (List Int)) : ev x (allR c rs) = c * (rs.map (ev x)).foldl (· * ·) 1 := by
  have key : ∀ (rs : List (List Int)) (d : List Int) (y : Int), ev x d = c * y → ev x (rs.foldl rowT d) = c * (rs.map (ev x)).foldl (· * ·) y := fun rs => by
    induction rs with
    | nil => intro d y h; exact h
    | cons r rs ih =>
      intro d y h
      rw [List.foldl_cons, List.map_cons, List.foldl_cons]
      refine ih _ _ ?_
      rw [ev_rowT, h, Int.mul_assoc]
  exact key rs [c] 1 (by simp [ev])
theorem ev_gap (x : Int) (ls : List Lin) (k n : Nat) : ev x (gapR ls k n) = gapI (fun i => ev x (uu ls i)) (fun i => ev x (vv ls i)) k n := by
  unfold gapR gapI
  rw [ev_rowL, ev_rowT, ev_rowT]
theorem ev_step (x : Int) (ls : List Lin) (k : Nat) (d : List Int) : ∀ n, ev x (stepR ls k d n) = ev x d * gapsI (fun i => ev x (uu ls i)) (fun i => ev x (vv ls i)) k n
  | 0 => by rw [stepR, gapsI, Int.mul_one]
  | n + 1 => by
    rw [stepR, ev_all]
    simp only [List.map_cons, List.map_nil, List.foldl_cons, List.foldl_nil, Int.one_mul]
    rw [ev_step x ls k d n, ev_gap, gapsI]
    simp only [Int.mul_assoc]
theorem ev_due (x : Int) (ls : List Lin) : ∀ k, ev x (dueK ls k) = dueI (fun i => ev x (uu ls i)) (fun i => ev x (vv ls i)) k
  | 0 => by simp [dueK, dueI, ev]
  | k + 1 => by rw [dueK, ev_step, ev_due x ls k, dueI]
theorem ev_poly (x : Int) (c : Int) (ls : List Lin) : ∀ k i, ev x (rw' (polyK c ls k) i) = Fx c (fun i => ev x (uu ls i)) (fun i => ev x (vv ls i)) k i
  | 0, i => by
    cases i with
    | zero => simp [polyK, Fx, rw', ev]
    | succ i => rw [polyK, rw_none (by simp), Fx, if_neg (by omega)]; rfl
  | k + 1, i => by
    rw [polyK, lineT_ev, Fx, ev_poly x c ls k i]
    split
    · rfl
    · rw [ev_poly x c ls k (i - 1)]
theorem ev_scN (x c : Int) (d : List Int) : ∀ n, ev x (scN c d n) = c ^ n * ev x d
  | 0 => by simp [scN]
  | n + 1 => by rw [scN, ev_rowS, ev_scN x c d n, Int.pow_succ]; grind
/-- the discriminant of the product is what the law makes -/
theorem disc_lines {c : Int} {ls : List Lin} (h2 : 2 ≤ ls.length) (h4 : ls.length ≤ 4) : discR ls.length (polyK c ls ls.length) = scN c (dueK ls ls.length) (2 * ls.length - 2) := by
  refine ev_inj (okR_trim _) ?_ fun x => ?_
  · obtain ⟨m, hm⟩ : ∃ m, 2 * ls.length - 2 = m + 1 := ⟨2 * ls.length - 3, by omega⟩
    rw [hm, scN]
    exact okR_trim _
  · rw [ev_discR, ev_scN, ev_due, ← linesn h2 h4]
    congr 1
    funext i
    exact ev_poly x c ls _ i
/-- the discriminant of a drawn POLY is what the law's formula tells -/
theorem disc_form {p : List (List Int)} {n : Nat} (lp : p.length = n + 1) (n1 : 1 ≤ n) (n3 : n ≤ 3) : discR n p = formR p := by
  have okf : okR (formR p) := by
    unfold formR
    split
    · intro c hc; simp at hc; omega
    · split
      · exact okR_trim _
      · exact okR_trim _
  refine ev_inj (okR_trim _) okf fun x => ?_
  rw [ev_discR]
  unfold formR
  match n, n1, n3 with
  | 1, _, _ =>
    rw [if_pos lp]
    show DE1.int _ = _
    rw [DE1_int]
    simp [ev]
  | 2, _, _ =>
    rw [if_neg (by omega), if_pos lp, ev_rowA, ev_all, ev_all]
    show DE2.int _ = _
    rw [DE2_int]
    simp only [List.map_cons, List.map_nil, List.foldl_cons, List.foldl_nil, D2]
    grind
  | 3, _, _ =>
    rw [if_neg (by omega), if_neg (by omega), ev_rowA, ev_rowA, ev_rowA, ev_rowA, ev_all, ev_all, ev_all, ev_all, ev_all]
    show DE3.int _ = _
    rw [DE3_int]
    simp only [List.map_cons, List.map_nil, List.foldl_cons, List.foldl_nil, D3]
    grind
/-! how great they are -/
structure LOk (l : Lin) (A B : Nat) : Prop where
  ok : okR l.1
  ne : l.1 ≠ []
  l1 : l.1.length ≤ 2
  l2 : l.2.length ≤ 2
  nu : nm l.1 ≤ A
  nv : nm l.2 ≤ B
theorem LOk.up {l : Lin} {A B C D : Nat} (h : LOk l A B) (a : A ≤ C) (b : B ≤ D) : LOk l C D := ⟨h.ok, h.ne, h.l1, h.l2, Nat.le_trans h.nu a, Nat.le_trans h.nv b⟩
def LsOk (ls : List Lin) : Prop := ∀ l ∈ ls, LOk l 9 3000000
theorem LsOk.at {ls : List Lin} (h : LsOk ls) {k : Nat} (hk : k < ls.length) : LOk (uu ls k, vv ls k) 9 3000000 := by
  have e : ls.getD k ([], []) = ls[k] := by rw [List.getD_eq_getElem?_getD, List.getElem?_eq_getElem hk]; rfl
  have := h ls[k] (List.getElem_mem _)
  unfold uu vv
  rw [e]
  exact this
theorem gap_nm {ls : List Lin} (h : LsOk ls) {k n : Nat} (hk : k < ls.length) (hn : n < ls.length) : nm (gapR ls k n) ≤ 54000000 ∧ (gapR ls k n).length ≤ 4 := by
  have a := h.at hk
  have b := h.at hn
  unfold gapR
  refine ⟨Nat.le_trans (nm_rowL _ _) ?_, Nat.le_trans (len_rowL _ _) ?_⟩
  · have h1 := Nat.le_trans (nm_rowT (uu ls k) (vv ls n)) (Nat.mul_le_mul a.nu b.nv)
    have h2 := Nat.le_trans (nm_rowT (vv ls k) (uu ls n)) (Nat.mul_le_mul a.nv b.nu)
    omega
  · have h1 := len_rowT (uu ls k) (vv ls n)
    have h2 := len_rowT (vv ls k) (uu ls n)
    have := a.l1
    have := a.l2
    have := b.l1
    have := b.l2
    simp only at *
    omega
theorem step_nm {ls : List Lin} (h : LsOk ls) {k c : Nat} (hk : k < ls.length) {d : List Int} (hd : nm d < 2 ^ (52 * c + 1) ∧ d.length ≤ 1 + 9 * c) : ∀ n, n ≤ k → nm (stepR ls k d n) < 2 ^ (52 * (c + n) + 1) ∧ (stepR ls k d n).length ≤ 1 + 9 * (c + n)
  | 0, _ => hd
  | n + 1, hn => by
    obtain ⟨ih1, ih2⟩ := step_nm h hk hd n (by omega)
    obtain ⟨g1, g2⟩ := gap_nm h hk (show n < ls.length by omega)
    rw [stepR]
    have e : allR 1 [stepR ls k d n, gapR ls k n, gapR ls k n] = rowT (rowT (rowT [1] (stepR ls k d n)) (gapR ls k n)) (gapR ls k n) := rfl
    rw [e]
    have a1 := nm_rowT [1] (stepR ls k d n)
    have a2 := nm_rowT (rowT [1] (stepR ls k d n)) (gapR ls k n)
    have a3 := nm_rowT (rowT (rowT [1] (stepR ls k d n)) (gapR ls k n)) (gapR ls k n)
    have n1 : nm [1] = 1 := rfl
    rw [n1, Nat.one_mul] at a1
    have gl : nm (gapR ls k n) < 2 ^ 26 := by omega
    constructor
    · have b1 := Nat.lt_of_le_of_lt a1 ih1
      have b2 := Nat.lt_of_le_of_lt a2 (lt_pow_mul b1 gl)
      have b3 := Nat.lt_of_le_of_lt a3 (lt_pow_mul b2 gl)
      rw [show 52 * (c + (n + 1)) + 1 = 52 * (c + n) + 1 + 26 + 26 by omega]
      exact b3
    · have b1 := len_rowT [1] (stepR ls k d n)
      have b2 := len_rowT (rowT [1] (stepR ls k d n)) (gapR ls k n)
      have b3 := len_rowT (rowT (rowT [1] (stepR ls k d n)) (gapR ls k n)) (gapR ls k n)
      have : ([1] : List Int).length = 1 := rfl
      omega
/-- how many gaps there are ahead of line k -/
def cnt : Nat → Nat
  | 0 => 0
  | k + 1 => cnt k + k
theorem due_nm {ls : List Lin} (h : LsOk ls) : ∀ k, k ≤ ls.length → nm (dueK ls k) < 2 ^ (52 * cnt k + 1) ∧ (dueK ls k).length ≤ 1 + 9 * cnt k
  | 0, _ => ⟨by show 1 < 2 ^ 1; decide, by show 1 ≤ 1; decide⟩
  | k + 1, hk => step_nm h (show k < ls.length by omega) (due_nm h k (by omega)) k (Nat.le_refl k)
theorem poly_facts {c : Int} {ls : List Lin} (h : LsOk ls) (hc : c ≠ 0) : ∀ k, k ≤ ls.length → okP (polyK c ls k) ∧ (polyK c ls k).length = k + 1 ∧ (∀ r ∈ polyK c ls k, r.length ≤ k + 1) ∧ sumN (polyK c ls k) ≤ c.natAbs * 3000009 ^ k ∧ nm (rw' (polyK c ls k) k) ≤ c.natAbs * 9 ^ k
  | 0, _ => by
    refine ⟨⟨fun r hr => ?_, fun r hr => ?_⟩, rfl, fun r hr => ?_, ?_, ?_⟩
    · rw [polyK, List.mem_singleton] at hr; subst hr; intro x hx; simp at hx; omega
    · simp [polyK] at hr; subst hr; simp
    · rw [polyK, List.mem_singleton] at hr; subst hr; exact Nat.le_refl _
    · simp [polyK, sumN, nm]
    · simp [polyK, rw', nm]
  | k + 1, hk => by
    obtain ⟨a, b, d, e, f⟩ := poly_facts h hc k (by omega)
    have l := h.at (show k < ls.length by omega)
    have ne : polyK c ls k ≠ [] := fun z => by rw [z] at b; cases b
    rw [polyK]
    refine ⟨lineT_ok a ne l.ok l.ne, by rw [lineT_len, b], lineT_rows d l.l2 l.l1 (by omega), ?_, ?_⟩
    · refine Nat.le_trans lineT_nm ?_
      have := Nat.mul_le_mul e (show nm (vv ls k) + nm (uu ls k) ≤ 3000009 by have := l.nu; have := l.nv; simp only at *; omega)
      rw [Nat.pow_succ, ← Nat.mul_assoc]
      exact this
    · have lead := lineT_lead (p := polyK c ls k) (v := vv ls k) (u := uu ls k) (by omega)
      rw [b] at lead
      rw [lead, show k + 1 - 1 = k by omega]
      refine Nat.le_trans (nm_trim _) (Nat.le_trans (nm_mul _ _) ?_)
      rw [Nat.pow_succ, ← Nat.mul_assoc]
      exact Nat.mul_le_mul f l.nu
end K27

set_option Elab.async false
set_option linter.all false
set_option maxRecDepth 100000
set_option maxHeartbeats 8000000
local macro_rules | `(tactic| walk_at "rd") => `(tactic| dsimp only [Evl.tCut, L2.tSeq, L2.tNext, L2.tRet, L2.tRetN, L2.tAsg, L2.gName, L2.tIfS, L2.tDrop, L2.tCons, L2.tNil, L2.tC, L2.tVar, L2.tCB, L2.tAndV, L2.tOrV, L2.tNotV, L2.tB, L2.tTest, L2.tOp, L2.tUn, L2.tNot, L2.tAnd, L2.tOr, L2.tIf, L2.tCall, L2.tTup, L2.tLst, L2.tNotT, L2.tYes, L2.gTup, L2.gCons, L2.gNil, L2.gSub, L2.tBM0, L2.tBM, L2.tWhile, L2.tFor, L2.iRng1, L2.iRng2, L2.tAugS, Tw.iEnumT, L2.tCKw, L2.tAug, L2.ipI, RT.iRevA, L2.iRevR, L2.tPar, L2.tPar3, L2.tSl, L2.tNoPart, L2.tPart, Tw.tRevT, L2.rAdd, L2.rSub, L2.tBits])
namespace K27
open PySem PySem.Spec PyProof.Rows L2 Tw
/-! whether all is right -/
def spRight : Sp := fun vs H Q _ => ∃ a, vs = [.ref a] ∧ We a H ∧ ∀ H', Kp a H H' → Q (.bl true) H'
/-- a line in memory -/
def LnR (H : Hp) (v : V) (l : Lin) : Prop := ∃ q x y, v = .ref q ∧ H q = some (.tup [x, y]) ∧ Ro H x l.1 ∧ Ro H y l.2
theorem stable_ln : Stable LnR := fun H H' v l k h => by
  obtain ⟨q, x, y, rfl, e, r1, r2⟩ := h
  exact ⟨q, x, y, rfl, k _ _ e, r1.kt k, r2.kt k⟩
theorem kp_kt {a : Addr} {H H' : Hp} (w : We a H) (k : Kp a H H') : Kt H H' := fun b xs e => k b _ (We.nt w e) e
theorem RelA.set {α : Type} {R : Hp → V → α → Prop} {H : Hp} {xs : List V} {rs : List α} {v : V} {r : α} (h : RelA R H xs rs) (k : Nat) (g : R H v r) : RelA R H (xs.set k v) (rs.set k r) := by
  refine ⟨by rw [List.length_set, List.length_set]; exact h.1, fun i x e => ?_⟩
  rw [List.getElem?_set] at e ⊢
  by_cases c : k = i
  · subst c
    rw [if_pos rfl] at e ⊢
    by_cases d : k < xs.length
    · rw [if_pos d] at e
      injection e with e
      subst e
      exact ⟨r, by rw [if_pos (by rw [← h.1]; exact d)], g⟩
    · rw [if_neg d] at e; cases e
  · rw [if_neg c] at e ⊢
    exact h.2 i x e
theorem we_upd {a L : Addr} {H : Hp} {o : HO} (w : We a H) (n : L ≠ a) : We a (upd H L o) := by
  obtain ⟨x, y, z, e⟩ := w
  exact ⟨x, y, z, by rw [upd_ne n.symm]; exact e⟩
theorem okP_snoc {rs : List (List Int)} {r : List Int} (h : ∀ x ∈ rs, okR x) (hr : okR r) (ne : r ≠ []) : okP (rs ++ [r]) := by
  refine ⟨fun x hx => ?_, fun x hx => ?_⟩
  · rcases List.mem_append.mp hx with hx | hx
    · exact h x hx
    · rw [List.mem_singleton.mp hx]; exact hr
  · simp at hx; rw [← hx]; exact ne
theorem disc_nm {p : List (List Int)} {n : Nat} (okp : okP p) (lp : p.length = n + 1) (n1 : 1 ≤ n) (n4 : n ≤ 4) (hN : sumN p < 2 ^ 88) : nm (discR n p) < 2 ^ 803 := by
  obtain ⟨h3, h1, h2, h4, h5, h6, h7, ok1, ne1⟩ := res_facts okp lp n1 n4 (der_is n p) hN
  have b : nm (discR n p) ≤ szOf p (derP n p) := by
    unfold discR
    refine Nat.le_trans (nm_trim _) ?_
    have pos := nm_pos ok1 ne1
    refine Nat.le_trans (Ex.nm _ _) (Nat.le_trans (Nat.le_mul_of_pos_left _ pos) ?_)
    refine Nat.le_trans (DEn_nrm n1 n4 fun i => nm (rw' p i)) ?_
    rw [← szA_sum n p lp, ← szB_sum n p _ (der_is n p)]
    have sz : szOf p (derP n p) = sumN p ^ n * sumN (derP n p) ^ (n + 1) := by unfold szOf; rw [(der_is n p).1, lp]
    rw [sz]
    exact Nat.mul_le_mul (Nat.pow_le_pow_right h1 (by omega)) (Nat.pow_le_pow_right h2 (by omega))
  omega
theorem disc_len {p : List (List Int)} {n : Nat} (n1 : 1 ≤ n) (n4 : n ≤ 4) (lr : ∀ r ∈ p, r.length ≤ 5) : (discR n p).length ≤ 100 := by
  have a := Ex.row_len (rw_len (L := 8) (fun r hr => by have := lr r hr; omega)) (DEn n)
  have b := DEn_len n1 n4
  have c := trim_len ((DEn n).row (rw' p))
  unfold discR
  omega
theorem sum_le {p : List (List Int)} {B : Nat} (h : ∀ r ∈ p, nm r ≤ B) : sumN p ≤ p.length * B := by
  unfold sumN
  induction p with
  | nil => simp
  | cons r p ih =>
    have := h r (List.mem_cons_self ..)
    have := ih fun x hx => h x (List.mem_cons_of_mem _ hx)
    rw [List.map_cons, List.sum_cons, List.length_cons, Nat.add_mul]
    omega
/-- rows that can be written out -/
def Sr (d : PyData) : Prop := PyData.showable d = true ∧ PyData.leavesShort 300 d = true ∧ PyData.bulk d ≤ 200
theorem sr_ints : ∀ {r : List Int}, (∀ c ∈ r, c.natAbs < 2 ^ 803) → PyData.showableAll (r.map PyData.int) = true ∧ PyData.leavesShortAll 300 (r.map PyData.int) = true ∧ PyData.bulkAll (r.map PyData.int) = r.length
  | [], _ => ⟨rfl, rfl, rfl⟩
  | c :: r, h => by
    have hc := h c (List.mem_cons_self ..)
    have ih := sr_ints (r := r) fun x hx => h x (List.mem_cons_of_mem _ hx)
    have lc : c.natAbs.log2 < 803 := by
      by_cases z : c.natAbs = 0
      · rw [z]; decide
      · exact (Nat.log2_lt z).mpr hc
    have hs : PyData.showable (.int c) = true := by rw [PyData.showable, decide_eq_true (by omega)]
    have hl : PyData.leavesShort 300 (.int c) = true := by
      have : (PyData.shown (.int c)).length ≤ 300 := by
        show (Str.ofString (toString c)).length ≤ 300
        rw [PySem.ofString_length]
        exact Nat.le_trans (int_text_length_le10 (k := 250) (by decide) (Nat.lt_trans hc (by decide +kernel))) (by decide)
      rw [PyData.leavesShort, decide_eq_true this]
    have hb : PyData.bulk (.int c) = 0 := by rw [PyData.bulk] <;> nofun
    rw [List.map_cons]
    refine ⟨by rw [PyData.showableAll, hs, ih.1]; rfl, by rw [PyData.leavesShortAll, hl, ih.2.1]; rfl, ?_⟩
    rw [PyData.bulkAll, ih.2.2, List.length_cons, hb]
    omega
theorem sr_row {r : List Int} (h : ∀ c ∈ r, c.natAbs < 2 ^ 803) (l : r.length ≤ 200) : Sr (rowD r) := by
  have := sr_ints h
  unfold rowD
  exact ⟨by rw [PyData.showable]; exact this.1, by rw [PyData.leavesShort]; exact this.2.1, by rw [PyData.bulk, this.2.2]; exact l⟩
theorem show_two {K : PySem.W.Frag} {H : Hp} {T a : Addr} {x y : V} {r s : List Int} {Q : VK} (w : We a H) (e : H T = some (.lst [x, y])) (rx : Ro H x r) (ry : Ro H y s) (hr : nm r < 2 ^ 803) (lr : r.length ≤ 200) (hs : nm s < 2 ^ 803) (ls : s.length ≤ 200)
    (q : Q (.str (PyData.list [rowD r, rowD s]).shown) H) : rShow K [.ref T] H Q := by
  obtain ⟨a1, a2, a3⟩ := sr_row (r := r) (fun c hc => Nat.lt_of_le_of_lt (nm_mem hc) hr) lr
  obtain ⟨b1, b2, b3⟩ := sr_row (r := s) (fun c hc => Nat.lt_of_le_of_lt (nm_mem hc) hs) ls
  have nice : ∀ d ∈ [rowD r, rowD s], Nice 2 d := fun d hd => by
    simp only [List.mem_cons, List.not_mem_nil, or_false] at hd
    rcases hd with rfl | rfl
    · exact (nice_row r).up (by decide)
    · exact (nice_row s).up (by decide)
  have da : DaAll a H [x, y] [rowD r, rowD s] := .cons (da_row w rx) (.cons (da_row w ry) .nil)
  refine ⟨T, .list [rowD r, rowD s], rfl, .lst (SqL.of e) (da.dp (canAll fun d hd => (nice d hd).1)), (nice_lst nice).shaped (by decide), ?_, ?_, q⟩
  · rw [PyData.showable, PyData.showableAll, PyData.showableAll, PyData.showableAll, a1, b1]; rfl
  · have h := PyData.shown_le_bulk 300 (by decide) (.list [rowD r, rowD s]) (by rw [PyData.leavesShort, PyData.leavesShortAll, PyData.leavesShortAll, PyData.leavesShortAll, a2, b2]; rfl)
    refine Nat.le_trans h (Nat.le_trans ?_ (show 16777216 ≤ sizeLine by decide))
    have : PyData.bulk (.list [rowD r, rowD s]) ≤ 402 := by
      rw [PyData.bulk, PyData.bulkAll, PyData.bulkAll, PyData.bulkAll]
      omega
    omega
theorem scN_len (c : Int) (d : List Int) : ∀ n, (scN c d n).length ≤ d.length
  | 0 => Nat.le_refl _
  | n + 1 => Nat.le_trans (len_rowS _ _) (scN_len c d n)
theorem cnt_le {k n : Nat} (hk : k ≤ 3) (hn : n < k) : cnt k + n ≤ 5 := by
  match k, hk with
  | 0, _ => omega
  | 1, _ => simp [cnt]; omega
  | 2, _ => simp [cnt]; omega
  | 3, _ => simp [cnt]; omega
theorem cnt_le4 {k : Nat} (hk : k ≤ 4) : cnt k ≤ 6 := by
  match k, hk with
  | 0, _ => decide
  | 1, _ => decide
  | 2, _ => decide
  | 3, _ => decide
  | 4, _ => decide
theorem small_nm {r : List Int} {L : Nat} (h : ∀ c ∈ r, c.natAbs ≤ 500000) (l : r.length ≤ L) : nm r ≤ 500000 * L := by
  induction r generalizing L with
  | nil => simp [nm]
  | cons a r ih =>
    cases L with
    | zero => simp at l
    | succ L =>
      have := ih (L := L) (fun c hc => h c (List.mem_cons_of_mem _ hc)) (by simpa using l)
      have := h a (List.mem_cons_self ..)
      rw [nm]
      omega
section
variable {P : Program} {w : World} {K : PySem.W.Frag} {mg : Str → Option Value} {base : Heap}
theorem scRight : FnScope ["_law_well_here", "_law_made", "_law_some", "_law_k", "_law_head", "_law_one", "_law_u", "_law_by", "_law_due", "_law_two", "_law_n", "_law_gap"] ["_law_well_here"] (defScope sRight) := ⟨rfl, rfl, rfl, by decide +kernel, rfl, by decide +kernel, by decide +kernel⟩
theorem ok_right (D : Def K mg "_law_right" sRight ["_law_well_here"]) (nb : Nb mg) (DDI : Def K mg "discriminant" sDisc ["poly"]) (cdi : Cal P w K mg base "discriminant" 38 ["poly"] spDisc) (cfo : Cal P w K mg base "_law_formula" 4 ["_law_one"] spForm)
    (c1 : Cal P w K mg base "_law_draw" 1 ["_law_well_here", "_law_many"] spDraw) (crow : Cal P w K mg base "_law_row" 3 ["_law_well_here", "_law_many"] spRowM) (cpi : Cal P w K mg base "_law_pick" 2 ["_law_well_here", "_law_some"] spPick)
    (cs : Cal P w K mg base "_law_scaled" 2 ["_law_row_here", "_law_by"] spRS') (cpt : Cal P w K mg base "_law_poly_times" 3 ["_law_one", "_law_two"] spPTimes) (cle : Cal P w K mg base "_law_row_less" 3 ["_law_one", "_law_two"] spRL')
    (ct : Cal P w K mg base "_law_row_times" 2 ["_law_one", "_law_two"] spRT') (cl : Cal P w K mg base "_law_all" 3 ["_law_by", "_law_some"] spAll) : CalG P w K mg base "_law_right" 40 ["_law_well_here"] spRight := by
  refine D.okG scRight (fun vs H Q E h => ?_) (fun f cdv A out s H vs Q E hq hr h => ?_)
  · obtain ⟨a, rfl, _⟩ := h; rfl
  obtain ⟨a, rfl, hw, q⟩ := h
  have hu70 : (A.deeper (envOfC "_law_right" (defScope sRight) s.heap.objs.size f cdv)).units + 70 < cLine := by have := hr.un; omega
  refine ⟨_, Evl.pss_cut (ps_par (i := 1) (j := 2) rfl scRight.nd rfl rfl (by decide) rfl rfl (pa_cons (pe_lst pa_nil) (pa_cons (pe_lst pa_nil) pa_nil)) rfl)
    (Evl.pss_cut (ps_for PassesOwn.never rfl (pi_range1 (by rfl) nb.rng (pa_cons (pe_op op_add pe_int (pe_cal c1 hr (by omega) (by rfl) (pa_cons (pv 0) (pa_cons pe_int pa_nil)))) pa_nil)) (pg_name (i := 3) scRight.nd rfl (Or.inl rfl))
      (pss_one (ps_expr (pe_bm PySem.F.plainAttrs_list PySem.F.slot_list_append PySem.F.type_list_append mt_append (pv 1) (pa_cons (pe_cal crow hr (by omega) (by rfl) (pa_cons (pv 0) (pa_cons pe_int pa_nil))) pa_nil)))))
    (Evl.pss_cut (ps_set (i := 4) scRight.nd rfl (Or.inl rfl) (pe_cal crow hr (by omega) (by rfl) (pa_cons (pv 0) (pa_cons pe_int pa_nil))))
    (Evl.pss_cut (ps_set (i := 5) scRight.nd rfl (Or.inl rfl) (pe_op (r := rCatA K) op_catA (pe_callTy (T := "tuple") call_tuple_of (by rfl) nb.tup (by decide +kernel) (pa_cons (pv 1) pa_nil)) (pe_tup (pa_cons (pe_ifExp (pt_cmpR (op_neD hr.units) (pv 4) (pe_tup pa_nil) (nomark _)) (pv 4) (pe_tup (pa_cons pe_int pa_nil))) pa_nil))))
    (Evl.pss_cut (ps_for PassesOwn.never rfl (pi_range1 (by rfl) nb.rng (pa_cons (pe_op op_add pe_int (pe_cal c1 hr (by omega) (by rfl) (pa_cons (pv 0) (pa_cons pe_int pa_nil)))) pa_nil)) (pg_name (i := 3) scRight.nd rfl (Or.inl rfl))
      (Evl.pss_cut (ps_set (i := 6) scRight.nd rfl (Or.inl rfl) (pe_ifExp (pt_cmpR op_gt (pe_cal c1 hr (by omega) (by rfl) (pa_cons (pv 0) (pa_cons pe_int pa_nil))) pe_int (nomark _)) (pe_tup (pa_cons (pe_cal cpi hr (by omega) (by rfl) (pa_cons (pv 0) (pa_cons (pe_tup (pa_cons pe_int (pa_cons pe_int (pa_cons (pe_un un_neg pe_int) (pa_cons pe_int (pa_cons pe_int pa_nil)))))) pa_nil))) pa_nil)) (pe_tup (pa_cons (pe_op op_sub (pe_cal c1 hr (by omega) (by rfl) (pa_cons (pv 0) (pa_cons pe_int pa_nil))) pe_int) (pa_cons pe_int pa_nil)))))
    (pss_one (ps_expr (pe_bm PySem.F.plainAttrs_list PySem.F.slot_list_append PySem.F.type_list_append mt_append (pv 2) (pa_cons (pe_tup (pa_cons (pv 6) (pa_cons (pe_cal crow hr (by omega) (by rfl) (pa_cons (pv 0) (pa_cons pe_int pa_nil))) pa_nil))) pa_nil))))))
    (Evl.pss_cut (ps_if (pt_cmpR op_eq (pe_cal c1 hr (by omega) (by rfl) (pa_cons (pv 0) (pa_cons pe_int pa_nil))) pe_int (nomark _))
      (pss_one (ps_asg (pe_tup (pa_cons (pe_cal cs hr (by omega) (by rfl) (pa_cons (pe_ix (r := rIxT K) ix_tup (pe_ix (r := rIxL K) ix_list (pv 2) pe_int (fun _ _ => rfl)) pe_int (fun _ _ => rfl)) (pa_cons pe_int pa_nil))) (pa_cons (pe_cal cs hr (by omega) (by rfl) (pa_cons (pe_ix (r := rIxT K) ix_tup (pe_ix (r := rIxL K) ix_list (pv 2) pe_int (fun _ _ => rfl)) pe_int (fun _ _ => rfl)) (pa_cons pe_int pa_nil))) pa_nil))) (pg_sub (pv 2) (pe_un un_neg pe_int) set_list)))
      (pss_nil))
    (Evl.pss_cut (ps_par (i := 7) (j := 8) rfl scRight.nd rfl rfl (by decide) rfl rfl (pa_cons (pe_cal cpi hr (by omega) (by rfl) (pa_cons (pv 0) (pa_cons (pe_tup (pa_cons pe_int (pa_cons (pe_un un_neg pe_int) (pa_cons pe_int (pa_cons pe_int (pa_cons (pe_un un_neg pe_int) pa_nil)))))) pa_nil))) (pa_cons (pe_tup (pa_cons pe_int pa_nil)) pa_nil)) rfl)
    (Evl.pss_cut (ps_set (i := 9) scRight.nd rfl (Or.inl rfl) (pe_tup (pa_cons (pe_tup (pa_cons (pv 7) pa_nil)) pa_nil)))
    (Evl.pss_cut (ps_for PassesOwn.never rfl (pi_range1 (by rfl) nb.rng (pa_cons (pe_callB (id := "len") (r := rLn K) call_len_seq (by rfl) nb.len PySem.boot_len (pa_cons (pv 2) pa_nil)) pa_nil)) (pg_name (i := 3) scRight.nd rfl (Or.inl rfl))
      (Evl.pss_cut (ps_set (i := 9) scRight.nd rfl (Or.inl rfl) (pe_cal cpt hr (by omega) (by rfl) (pa_cons (pv 9) (pa_cons (pe_tup (pa_cons (pe_ix (r := rIxT K) ix_tup (pe_ix (r := rIxL K) ix_list (pv 2) (pv 3) (fun _ _ => rfl)) pe_int (fun _ _ => rfl)) (pa_cons (pe_ix (r := rIxT K) ix_tup (pe_ix (r := rIxL K) ix_list (pv 2) (pv 3) (fun _ _ => rfl)) pe_int (fun _ _ => rfl)) pa_nil))) pa_nil))))
    (pss_one (ps_for PassesOwn.never rfl (pi_range1 (by rfl) nb.rng (pa_cons (pv 3) pa_nil)) (pg_name (i := 10) scRight.nd rfl (Or.inl rfl))
      (Evl.pss_cut (ps_set (i := 11) scRight.nd rfl (Or.inl rfl) (pe_cal cle hr (by omega) (by rfl) (pa_cons (pe_cal ct hr (by omega) (by rfl) (pa_cons (pe_ix (r := rIxT K) ix_tup (pe_ix (r := rIxL K) ix_list (pv 2) (pv 3) (fun _ _ => rfl)) pe_int (fun _ _ => rfl)) (pa_cons (pe_ix (r := rIxT K) ix_tup (pe_ix (r := rIxL K) ix_list (pv 2) (pv 10) (fun _ _ => rfl)) pe_int (fun _ _ => rfl)) pa_nil))) (pa_cons (pe_cal ct hr (by omega) (by rfl) (pa_cons (pe_ix (r := rIxT K) ix_tup (pe_ix (r := rIxL K) ix_list (pv 2) (pv 3) (fun _ _ => rfl)) pe_int (fun _ _ => rfl)) (pa_cons (pe_ix (r := rIxT K) ix_tup (pe_ix (r := rIxL K) ix_list (pv 2) (pv 10) (fun _ _ => rfl)) pe_int (fun _ _ => rfl)) pa_nil))) pa_nil))))
    (pss_one (ps_set (i := 8) scRight.nd rfl (Or.inl rfl) (pe_cal cl hr (by omega) (by rfl) (pa_cons pe_int (pa_cons (pe_lst (pa_cons (pv 8) (pa_cons (pv 11) (pa_cons (pv 11) pa_nil)))) pa_nil))))))))))
    (Evl.pss_cut (ps_for PassesOwn.never rfl (pi_range1 (by rfl) nb.rng (pa_cons (pe_op op_sub (pe_op op_mul pe_int (pe_callB (id := "len") (r := rLn K) call_len_seq (by rfl) nb.len PySem.boot_len (pa_cons (pv 2) pa_nil))) pe_int) pa_nil)) (pg_name (i := 3) scRight.nd rfl (Or.inl rfl))
      (pss_one (ps_set (i := 8) scRight.nd rfl (Or.inl rfl) (pe_cal cs hr (by omega) (by rfl) (pa_cons (pv 8) (pa_cons (pv 7) pa_nil))))))
    (pss_one (ps_ret (pe_cmpR op_eq (pe_callB (id := "repr") (r := rShow K) (call_show hq hu70) (by rfl) nb.repr (by decide +kernel) (pa_cons (pe_lst (pa_cons (pe_cal cdi hr (by omega) (by rfl) (pa_cons (pv 5) pa_nil)) (pa_cons (pe_calK (ks := ["poly"]) (fun us => us) (fun zs => zs) cdi DDI hr (by omega) (by rfl) (fun _ _ _ _ _ _ us hl => match us, hl with | [_], _ => rfl) (fun r _ => r) (pk_cons (pv 9) pk_nil) (fun zs H Q h => by obtain ⟨v, e, q⟩ := h; exact ⟨v, e, rfl, q⟩)) pa_nil))) pa_nil)) (pe_callB (id := "repr") (r := rShow K) (call_show hq hu70) (by rfl) nb.repr (by decide +kernel) (pa_cons (pe_lst (pa_cons (pe_cal cfo hr (by omega) (by rfl) (pa_cons (pv 5) pa_nil)) (pa_cons (pv 8) pa_nil))) pa_nil)) (nomark _))))))))))))), ?_⟩
  walk_at "rd"
  refine ⟨fun σ H' => ∃ Lm Ls, σ = [some (.ref a), some (.ref Lm), some (.ref Ls), none, none, none, none, none, none, none, none, none] ∧ Kp a H H' ∧ We a H' ∧ H Lm = none ∧ H Ls = none ∧ Lm ≠ Ls ∧ H' Lm = some (.lst []) ∧ H' Ls = some (.lst []), ?_, ?_⟩
  · refine ⟨sz (by simp), fun Lm nm' => ⟨sz (by simp), fun Ls ns' => ⟨_, _, rfl, Lm, Ls, rfl, ?_, ?_, nm', (same_new nm').free ns', ?_, ?_, upd_same⟩⟩⟩
    · exact (kp_new nm').trans (kp_new ns')
    · exact (hw.to (same_new nm')).to (same_new ns')
    · intro z; rw [z, upd_same] at ns'; cases ns'
    · exact same_new ns' _ _ upd_same
  rintro σ1 H1 ⟨Lm, Ls, rfl, k1, w1, nLm, nLs, mls, eM1, eS1⟩
  have Ma : Lm ≠ a := hw.ne nLm
  have Sa : Ls ≠ a := hw.ne nLs
  refine ⟨fun σ H' => ∃ xs rs x3, σ = [some (.ref a), some (.ref Lm), some (.ref Ls), x3, none, none, none, none, none, none, none, none] ∧ Kp a H H' ∧ We a H' ∧ H' Lm = some (.lst xs) ∧ RoA H' xs rs ∧ H' Ls = some (.lst []) ∧ 1 ≤ rs.length ∧ rs.length ≤ 3 ∧ ∀ r ∈ rs, okR r ∧ r.length ≤ 3 ∧ ∀ c ∈ r, c.natAbs ≤ 500000, ?_, ?_⟩
  · refine ⟨_, rfl, a, 3, rfl, w1, by decide, by decide, fun d H2 d0 d3 k2 w2 => ⟨_, _, rfl, rfl, ?_⟩⟩
    obtain ⟨d, rfl⟩ : ∃ m : Nat, d = (m : Int) := ⟨d.toNat, by omega⟩
    refine ⟨_, rfl, by omega, by omega, ?_⟩
    rw [show ((1 : Int) + (d : Int)).toNat = d + 1 by omega]
    refine for_rng (lo := 0) (n := d + 1) (fun i σ H' => ∃ xs rs x3, σ = [some (.ref a), some (.ref Lm), some (.ref Ls), x3, none, none, none, none, none, none, none, none] ∧ Kp a H H' ∧ We a H' ∧ H' Lm = some (.lst xs) ∧ RoA H' xs rs ∧ H' Ls = some (.lst []) ∧ rs.length = i ∧ ∀ r ∈ rs, okR r ∧ r.length ≤ 3 ∧ ∀ c ∈ r, c.natAbs ≤ 500000) ?_ ?_ ?_
    · exact ⟨[], [], _, rfl, k1.trans k2, w2, k2 _ _ Ma eM1, .nil _, k2 _ _ Sa eS1, rfl, fun r hr => by cases hr⟩
    · rintro i σ H3 hi ⟨xs, rs, x3, rfl, k3, w3, eM, rM, eS, li, pr⟩
      refine ⟨_, rfl, .inl ⟨rfl, _, SqL.of eM⟩, _, rfl, a, 3, rfl, w3, by decide, by decide, fun v ns H4 k4 w4 rv okv lv cv' => ?_⟩
      have eM4 := k4 _ _ Ma eM
      refine ⟨Lm, xs, v, rfl, rfl, eM4, lt_line (by rw [rM.1]; omega), xs ++ [v], rs ++ [ns], _, rfl, kp_upd (k3.trans k4) nLm, we_upd w4 Ma, upd_same, ((rM.kt (kp_kt w3 k4)).snoc rv).kt (kt_upd eM4), ?_, by rw [List.length_append, li]; rfl, fun r hr => ?_⟩
      · rw [upd_ne mls.symm]; exact k4 _ _ Sa eS
      · rcases List.mem_append.mp hr with hr | hr
        · exact pr r hr
        · rw [List.mem_singleton.mp hr]; exact ⟨okv, by omega, cv'⟩
    · rintro σ H3 ⟨xs, rs, x3, rfl, k3, w3, eM, rM, eS, li, pr⟩
      exact ⟨xs, rs, x3, rfl, k3, w3, eM, rM, eS, by omega, by omega, pr⟩
  rintro σ2 H2 ⟨xs, rs, x3, rfl, k2, w2, eM2, rM2, eS2, l1, l3, pr⟩
  refine ⟨fun σ H' => ∃ v hd', σ = [some (.ref a), some (.ref Lm), some (.ref Ls), x3, some v, none, none, none, none, none, none, none] ∧ Kp a H H' ∧ We a H' ∧ H' Lm = some (.lst xs) ∧ RoA H' xs rs ∧ H' Ls = some (.lst []) ∧ Ro H' v hd' ∧ okR hd' ∧ hd'.length ≤ 2 ∧ ∀ c ∈ hd', c.natAbs ≤ 500000, ?_, ?_⟩
  · exact ⟨_, rfl, a, 2, rfl, w2, by decide, by decide, fun v ns H3 k3 w3 rv okv lv cv' => ⟨v, ns, rfl, k2.trans k3, w3, k3 _ _ Ma eM2, rM2.kt (kp_kt w2 k3), k3 _ _ Sa eS2, rv, okv, by omega, cv'⟩⟩
  rintro σ3 H3 ⟨v4, hd', rfl, k3, w3, eM3, rM3, eS3, rv4, okh, lh, ch⟩
  refine ⟨fun σ H' => ∃ v5 p n, σ = [some (.ref a), some (.ref Lm), some (.ref Ls), x3, some v4, some v5, none, none, none, none, none, none] ∧ Kp a H H' ∧ We a H' ∧ H' Ls = some (.lst []) ∧ Po H' v5 p ∧ okP p ∧ p.length = n + 1 ∧ 1 ≤ n ∧ n ≤ 3 ∧ ∀ r ∈ p, r.length ≤ 3 ∧ ∀ c ∈ r, c.natAbs ≤ 500000, ?_, ?_⟩
  · refine ⟨_, rfl, Lm, xs, rfl, .inl ⟨SqL.of eM3, fun l nl => ⟨_, rfl, sz (by simp), fun p0 np0 => ?_⟩⟩⟩
    have s4 := (same_new (o := .tup xs) nl).trans (same_new (o := .tup []) np0)
    have el := same_new (o := .tup []) np0 _ _ (upd_same (H := H3) (a := l) (o := .tup xs))
    have w4 := w3.to s4
    have rv4' := rv4.kt (Kt.of s4)
    have rM4 := rM3.kt (Kt.of s4)
    have eS4 := s4 _ _ eS3
    have ep0 : upd (upd H3 l (.tup xs)) p0 (.tup []) p0 = some (.tup []) := upd_same
    generalize upd (upd H3 l (.tup xs)) p0 (.tup []) = H4 at s4 el w4 rv4' rM4 eS4 ep0 ⊢
    have hne : (!PyData.eqv (rowD hd') (.tuple [])) = !decide (hd' = []) := by
      unfold rowD
      cases hd' <;> simp [PyData.eqv, PyData.eqvAll]
    refine ⟨rowD hd', .tuple [], (da_row w4 rv4').dp (nice_row hd').1, .tup (SqT.of ep0) .nil, (nice_row hd').shaped (by decide), by decide, _, rfl, ?_⟩
    rw [hne]
    have xne : xs ≠ [] := fun z => by
      have := rM3.1
      rw [z] at this
      simp at this
      omega
    have lxs : xs.length ≤ 3 := by rw [rM3.1]; exact l3
    by_cases c : hd' = []
    · rw [decide_eq_true c]
      refine iteF ⟨sz (by simp), fun p1 np1 => ⟨sz (by simp), fun p2 np2 => ?_⟩⟩
      have s5 := (same_new (o := .tup [.int 1]) np1).trans (same_new (o := .tup [.ref p1]) np2)
      refine ⟨l, p2, xs, [.ref p1], rfl, rfl, SqT.of (s5 _ _ el), SqT.of upd_same, ?_, fun z => absurd z xne, (fun _ z => by cases z), fun _ _ p3 np3 => ?_⟩
      · have := sz (n := xs.length + 1) (by omega); exact this
      have s6 := s5.trans (same_new (o := .tup (xs ++ [.ref p1])) np3)
      have ro1 : Ro (upd (upd (upd H4 p1 (.tup [.int 1])) p2 (.tup [.ref p1])) p3 (.tup (xs ++ [.ref p1]))) (.ref p1) [1] := ⟨p1, rfl, by
        have a := same_new (o := .tup [.ref p1]) np2 _ _ (upd_same (H := H4) (a := p1) (o := .tup [.int 1]))
        exact same_new (o := .tup (xs ++ [.ref p1])) np3 _ _ a⟩
      refine ⟨.ref p3, rs ++ [[1]], rs.length, rfl, k3.trans (Kp.of (s4.trans s6)), w4.to s6, s6 _ _ eS4, ⟨p3, _, rfl, upd_same, (rM4.kt (Kt.of s6)).snoc ro1⟩, okP_snoc (fun x hx => (pr x hx).1) (fun c hc => by simp at hc; omega) (by simp), by rw [List.length_append]; rfl, l1, l3, fun r hr => ?_⟩
      rcases List.mem_append.mp hr with hr | hr
      · exact (pr r hr).2
      · rw [List.mem_singleton.mp hr]; exact ⟨by decide, fun c hc => by simp at hc; subst hc; decide⟩
    · rw [decide_eq_false c]
      refine iteT ⟨_, rfl, sz (by simp), fun p2 np2 => ?_⟩
      have s5 := same_new (o := .tup [v4]) np2
      refine ⟨l, p2, xs, [v4], rfl, rfl, SqT.of (s5 _ _ el), SqT.of upd_same, ?_, fun z => absurd z xne, (fun _ z => by cases z), fun _ _ p3 np3 => ?_⟩
      · have := sz (n := xs.length + 1) (by omega); exact this
      have s6 := s5.trans (same_new (o := .tup (xs ++ [v4])) np3)
      refine ⟨.ref p3, rs ++ [hd'], rs.length, rfl, k3.trans (Kp.of (s4.trans s6)), w4.to s6, s6 _ _ eS4, ⟨p3, _, rfl, upd_same, (rM4.kt (Kt.of s6)).snoc (rv4'.kt (Kt.of s6))⟩, okP_snoc (fun x hx => (pr x hx).1) okh c, by rw [List.length_append]; rfl, l1, l3, fun r hr => ?_⟩
      rcases List.mem_append.mp hr with hr | hr
      · exact (pr r hr).2
      · rw [List.mem_singleton.mp hr]; exact ⟨by omega, ch⟩
  rintro σ4 H4 ⟨v5, p, n, rfl, k4, w4, eS4, po5, okp, lp, n1, n3, prr⟩
  refine ⟨fun σ H' => ∃ xs ls x3 x6, σ = [some (.ref a), some (.ref Lm), some (.ref Ls), x3, some v4, some v5, x6, none, none, none, none, none] ∧ Kp a H H' ∧ We a H' ∧ H' Ls = some (.lst xs) ∧ RelA LnR H' xs ls ∧ Po H' v5 p ∧ 2 ≤ ls.length ∧ ls.length ≤ 4 ∧ ∀ l ∈ ls, LOk l 3 1000000, ?_, ?_⟩
  · refine ⟨_, rfl, a, 3, rfl, w4, by decide, by decide, fun d H5 d0 d3 k5 w5 => ⟨_, _, rfl, rfl, ?_⟩⟩
    obtain ⟨d, rfl⟩ : ∃ m : Nat, d = (m : Int) := ⟨d.toNat, by omega⟩
    refine ⟨_, rfl, by omega, by omega, ?_⟩
    rw [show ((2 : Int) + (d : Int)).toNat = d + 2 by omega]
    have po5' : Po H5 v5 p := by
      obtain ⟨q5, ys, rfl, e5, r5⟩ := po5
      exact ⟨q5, ys, rfl, k5 _ _ (We.nt w4 e5) e5, r5.kt (kp_kt w4 k5)⟩
    refine for_rng (lo := 0) (n := d + 2) (fun i σ H' => ∃ xs ls x3 x6, σ = [some (.ref a), some (.ref Lm), some (.ref Ls), x3, some v4, some v5, x6, none, none, none, none, none] ∧ Kp a H H' ∧ We a H' ∧ H' Ls = some (.lst xs) ∧ RelA LnR H' xs ls ∧ Po H' v5 p ∧ ls.length = i ∧ ∀ l ∈ ls, LOk l 3 1000000) ?_ ?_ ?_
    · exact ⟨[], [], _, _, rfl, k4.trans k5, w5, k5 _ _ Sa eS4, ⟨rfl, fun i v e => by simp at e⟩, po5', rfl, fun l hl => by cases hl⟩
    · rintro i σ H6 hi ⟨xs, ls, x3, x6, rfl, k6, w6, eS, rS, po, li, pr⟩
      refine ⟨fun σ H' => ∃ v6 u, σ = [some (.ref a), some (.ref Lm), some (.ref Ls), some (.int (0 + (i : Int))), some v4, some v5, some v6, none, none, none, none, none] ∧ Kp a H6 H' ∧ We a H' ∧ Ro H' v6 u ∧ okR u ∧ u ≠ [] ∧ u.length ≤ 2 ∧ nm u ≤ 3, ?_, ?_⟩
      · refine ⟨_, rfl, a, 5, rfl, w6, by decide, by decide, fun d H7 d0 d5 k7 w7 => ⟨_, _, rfl, rfl, _, rfl, ite2 (fun c => ?_) (fun c => ?_)⟩⟩
        · refine ⟨_, rfl, _, rfl, sz (by simp), fun p1 np1 => ?_⟩
          have w8 := w7.to (same_new (o := .tup [.int 1, .int 1, .int (-1), .int 2, .int 1]) np1)
          refine ⟨a, p1, _, rfl, w8, upd_same, by simp, by simp, fun j x H8 hx k8 w9 => ⟨sz (by simp), fun p2 np2 => ?_⟩⟩
          obtain ⟨z, hz, rfl⟩ : ∃ z, z ∈ ([1, -1, 2] : List Int) ∧ x = V.int z := by
            have := List.mem_of_getElem? hx
            simp only [List.mem_cons, List.not_mem_nil, or_false] at this
            rcases this with rfl | rfl | rfl | rfl | rfl
            · exact ⟨1, by simp, rfl⟩
            · exact ⟨1, by simp, rfl⟩
            · exact ⟨-1, by simp, rfl⟩
            · exact ⟨2, by simp, rfl⟩
            · exact ⟨1, by simp, rfl⟩
          have hz' : z = 1 ∨ z = -1 ∨ z = 2 := by simpa using hz
          refine ⟨.ref p2, [z], rfl, (k7.trans (kp_new np1)).trans (k8.trans (kp_new np2)), w9.to (same_new np2), ⟨p2, rfl, upd_same⟩, fun c hc => ?_, by simp, by simp, ?_⟩
          · simp at hc; omega
          · simp only [nm]; omega
        · refine ⟨_, rfl, a, 5, rfl, w7, by decide, by decide, fun e H8 e0 e5 k8 w8 => ⟨_, _, rfl, rfl, sz (by simp), fun p2 np2 => ?_⟩⟩
          refine ⟨.ref p2, [e - 2, 1], rfl, k7.trans (k8.trans (kp_new np2)), w8.to (same_new np2), ⟨p2, rfl, upd_same⟩, fun c hc => ?_, by simp, by simp, ?_⟩
          · simp at hc; omega
          · simp only [nm]; omega
      rintro σ7 H7 ⟨v6, u, rfl, k7, w7, rv6, oku, nu, lu, nmu⟩
      have eS7 := k7 _ _ Sa eS
      refine ⟨_, rfl, .inl ⟨rfl, _, SqL.of eS7⟩, _, rfl, _, rfl, a, 2, rfl, w7, by decide, by decide, fun v ns H8 k8 w8 rv okv lv cv' => ⟨sz (by simp), fun p1 np1 => ?_⟩⟩
      have s9 := same_new (o := .tup [v6, v]) np1
      have k9 := k8.trans (Kp.of s9)
      have eS9 := k9 _ _ Sa eS7
      have kt1 := (kp_kt w6 k7).trans ((kp_kt w7 k8).trans (Kt.of s9))
      have w9 := w8.to s9
      have kt2 : Kt (upd H8 p1 (.tup [v6, v])) (upd (upd H8 p1 (.tup [v6, v])) Ls (.lst (xs ++ [.ref p1]))) := kt_upd eS9
      refine ⟨Ls, xs, .ref p1, rfl, rfl, eS9, lt_line (by rw [rS.1]; omega), xs ++ [.ref p1], ls ++ [(u, ns)], _, _, rfl, kp_upd ((k6.trans k7).trans k9) nLs, we_upd w9 Sa, upd_same, ?_, ?_, by rw [List.length_append, li]; rfl, fun l hl => ?_⟩
      · refine (RelA.kt stable_ln (kt1.trans kt2) rS).snoc ⟨p1, v6, v, rfl, kt2 _ _ upd_same, (rv6.kt ((kp_kt w7 k8).trans (Kt.of s9))).kt kt2, (rv.kt (Kt.of s9)).kt kt2⟩
      · obtain ⟨q5, ys, rfl, e5, r5⟩ := po
        exact ⟨q5, ys, rfl, (kt1.trans kt2) _ _ e5, r5.kt (kt1.trans kt2)⟩
      · rcases List.mem_append.mp hl with hl | hl
        · exact pr l hl
        · rw [List.mem_singleton.mp hl]
          exact ⟨oku, nu, lu, (by show ns.length ≤ 2; omega), nmu, Nat.le_trans (small_nm cv' (L := 2) (by show ns.length ≤ 2; omega)) (by decide)⟩
    · rintro σ H6 ⟨xs, ls, x3, x6, rfl, k6, w6, eS, rS, po, li, pr⟩
      exact ⟨xs, ls, x3, x6, rfl, k6, w6, eS, rS, po, by omega, by omega, pr⟩
  rintro σ5 H5 ⟨xs, ls0, x3, x6, rfl, k5, w5, eS5, rS5, po5, l2, l4, prl⟩
  refine ⟨fun σ H' => ∃ xs ls, σ = [some (.ref a), some (.ref Lm), some (.ref Ls), x3, some v4, some v5, x6, none, none, none, none, none] ∧ Kp a H H' ∧ We a H' ∧ H' Ls = some (.lst xs) ∧ RelA LnR H' xs ls ∧ Po H' v5 p ∧ 2 ≤ ls.length ∧ ls.length ≤ 4 ∧ LsOk ls, ?_, ?_⟩
  · refine ⟨_, rfl, a, 6, rfl, w5, by decide, by decide, fun d H6 d0 d6 k6 w6 => ⟨rfl, _, rfl, ite2 (fun c => ?_) (fun c => ?_)⟩⟩
    · have kt6 := kp_kt w5 k6
      have eS6 := k6 _ _ Sa eS5
      have rS6 := rS5.kt stable_ln kt6
      obtain ⟨q5, ys, rfl, e5, r5⟩ := po5
      obtain ⟨z0, xr, rfl⟩ : ∃ z0 xr, xs = z0 :: xr := by
        cases xs with
        | nil => have := rS5.1; simp at this; omega
        | cons z0 xr => exact ⟨z0, xr, rfl⟩
      obtain ⟨l0, lr, rfl⟩ : ∃ l0 lr, ls0 = l0 :: lr := by
        cases ls0 with
        | nil => simp at l2
        | cons l0 lr => exact ⟨l0, lr, rfl⟩
      obtain ⟨l0', e0, q0, x0, y0, rfl, eq0, rx0, ry0⟩ := rS6.2 0 z0 rfl
      injection e0 with e0
      subst e0
      have ok0 := prl l0 (List.mem_cons_self ..)
      refine ⟨_, rfl, Ls, _, 0, _, rfl, rfl, SqL.of eS6, atI_nat (j := 0) rfl, q0, _, 0, _, rfl, rfl, SqT.of eq0, rfl, x0, l0.1, 3, rfl, rx0, by have := ok0.l1; omega, by decide, fun z1 H7 s7 rz1 => ?_⟩
      refine ⟨_, rfl, Ls, _, 0, _, rfl, rfl, SqL.of (s7 _ _ eS6), atI_nat (j := 0) rfl, q0, _, 1, _, rfl, rfl, SqT.of (s7 _ _ eq0), rfl, y0, l0.2, 3, rfl, ry0.kt (Kt.of s7), by have := ok0.l2; omega, by decide, fun z2 H8 s8 rz2 => ⟨sz (by simp), fun p1 np1 => ⟨_, rfl, _, rfl, ?_⟩⟩⟩
      have s9 := s7.trans (s8.trans (same_new (o := .tup [z1, z2]) np1))
      have eS9 := s9 _ _ eS6
      have kt9 : Kt H6 (upd H8 p1 (.tup [z1, z2])) := Kt.of s9
      have kt10 : Kt (upd H8 p1 (.tup [z1, z2])) (upd (upd H8 p1 (.tup [z1, z2])) Ls (.lst ((V.ref q0 :: xr).set ((V.ref q0 :: xr).length - 1) (.ref p1)))) := kt_upd eS9
      have line : LnR (upd (upd H8 p1 (.tup [z1, z2])) Ls (.lst ((V.ref q0 :: xr).set ((V.ref q0 :: xr).length - 1) (.ref p1)))) (.ref p1) (rowS 3 l0.1, rowS 3 l0.2) :=
        ⟨p1, z1, z2, rfl, kt10 _ _ upd_same, ((rz1.kt (Kt.of s8)).kt (Kt.of (same_new np1))).kt kt10, (rz2.kt (Kt.of (same_new np1))).kt kt10⟩
      refine ⟨Ls, _, _, (V.ref q0 :: xr).length - 1, rfl, rfl, eS9, ?_, (V.ref q0 :: xr).set ((V.ref q0 :: xr).length - 1) (.ref p1), (l0 :: lr).set ((V.ref q0 :: xr).length - 1) (rowS 3 l0.1, rowS 3 l0.2), rfl, kp_upd ((k5.trans k6).trans (Kp.of s9)) nLs, we_upd (w6.to s9) Sa, upd_same, ?_, ⟨q5, ys, rfl, (kt6.trans (kt9.trans kt10)) _ _ e5, r5.kt (kt6.trans (kt9.trans kt10))⟩, by rw [List.length_set]; exact l2, by rw [List.length_set]; exact l4, fun l hl => ?_⟩
      · unfold ixN
        rw [if_neg (by decide), if_pos (by rw [List.length_cons]; omega)]
        congr 1
        rw [List.length_cons]
        omega
      · exact (RelA.kt stable_ln (kt9.trans kt10) rS6).set _ line
      · rcases List.mem_or_eq_of_mem_set hl with hl | rfl
        · exact (prl l hl).up (by decide) (by decide)
        · refine ⟨okR_trim _, fun z => ?_, Nat.le_trans (len_rowS _ _) ok0.l1, Nat.le_trans (len_rowS _ _) ok0.l2, Nat.le_trans (nm_rowS _ _) ?_, Nat.le_trans (nm_rowS _ _) ?_⟩
          · have := okR_zero (okR_scl (c := 3) (by decide) ok0.ok) (trim_nil_of z)
            unfold sclR at this
            exact ok0.ne (List.map_eq_nil_iff.mp this)
          · have := ok0.nu; show 3 * _ ≤ _; omega
          · have := ok0.nv; show 3 * _ ≤ _; omega
    · have kt := kp_kt w5 k6
      obtain ⟨q5, ys, rfl, e5, r5⟩ := po5
      exact ⟨xs, ls0, rfl, k5.trans k6, w6, k6 _ _ Sa eS5, rS5.kt stable_ln kt, ⟨q5, ys, rfl, kt _ _ e5, r5.kt kt⟩, l2, l4, fun l hl => (prl l hl).up (by decide) (by decide)⟩
  rintro σ6 H6 ⟨xs6, ls, rfl, k6, w6, eS6, rS6, po6, l2, l4, lok⟩
  clear prl rS5 po5 eS5 eS4 eS3 rM3 eM3 rv4 eM2 rM2 eS2 pr
  refine ⟨fun σ H' => ∃ v8 c, σ = [some (.ref a), some (.ref Lm), some (.ref Ls), x3, some v4, some v5, x6, some (.int c), some v8, none, none, none] ∧ Kp a H6 H' ∧ We a H' ∧ Ro H' v8 [1] ∧ c ≠ 0 ∧ c.natAbs ≤ 3, ?_, ?_⟩
  · refine ⟨_, rfl, _, rfl, _, rfl, sz (by simp), fun p1 np1 => ?_⟩
    have w7 := w6.to (same_new (o := .tup [.int 1, .int (-1), .int 2, .int 1, .int (-3)]) np1)
    refine ⟨a, p1, _, rfl, w7, upd_same, by simp, by simp, fun j x H8 hx k8 w9 => ⟨sz (by simp), fun p2 np2 => ?_⟩⟩
    obtain ⟨z, hz, rfl⟩ : ∃ z, z ∈ ([1, -1, 2, -3] : List Int) ∧ x = V.int z := by
      have := List.mem_of_getElem? hx
      simp only [List.mem_cons, List.not_mem_nil, or_false] at this
      rcases this with rfl | rfl | rfl | rfl | rfl
      · exact ⟨1, by simp, rfl⟩
      · exact ⟨-1, by simp, rfl⟩
      · exact ⟨2, by simp, rfl⟩
      · exact ⟨1, by simp, rfl⟩
      · exact ⟨-3, by simp, rfl⟩
    have hz' : z = 1 ∨ z = -1 ∨ z = 2 ∨ z = -3 := by simpa using hz
    exact ⟨_, _, rfl, .ref p2, z, rfl, (kp_new np1).trans (k8.trans (kp_new np2)), w9.to (same_new np2), ⟨p2, rfl, upd_same⟩, by omega, by omega⟩
  rintro σ7 H7 ⟨v8, c, rfl, k7, w7, rv8, c0, c3⟩
  have kt7 := kp_kt w6 k7
  have eS7 := k7 _ _ Sa eS6
  have rS7 := rS6.kt stable_ln kt7
  have po7 : Po H7 v5 p := by
    obtain ⟨q5, ys, rfl, e5, r5⟩ := po6
    exact ⟨q5, ys, rfl, kt7 _ _ e5, r5.kt kt7⟩
  have k07 := k6.trans k7
  clear po6 rS6 eS6 kt7 k6 k7 w6
  refine ⟨fun σ H' => ∃ v9, σ = [some (.ref a), some (.ref Lm), some (.ref Ls), x3, some v4, some v5, x6, some (.int c), some v8, some v9, none, none] ∧ Same H7 H' ∧ Po H' v9 (polyK c ls 0), ?_, ?_⟩
  · refine ⟨_, rfl, sz (by simp), fun p1 np1 => ⟨sz (by simp), fun p2 np2 => ⟨.ref p2, rfl, (same_new np1).trans (same_new np2), p2, [.ref p1], rfl, upd_same, ?_⟩⟩⟩
    exact ro_cons ⟨p1, rfl, same_new np2 _ _ upd_same⟩ (.nil _)
  rintro σ8 H8 ⟨v9, rfl, s8, po9⟩
  have w8 := w7.to s8
  have eS8 := s8 _ _ eS7
  have rS8 := rS7.kt stable_ln (Kt.of s8)
  have rv88 := rv8.kt (Kt.of s8)
  have po8 : Po H8 v5 p := by
    obtain ⟨q5, ys, rfl, e5, r5⟩ := po7
    exact ⟨q5, ys, rfl, s8 _ _ e5, r5.kt (Kt.of s8)⟩
  have k08 := k07.trans (Kp.of s8)
  clear po7 rS7 eS7 w7 k07 rv8
  have lnat : ∀ {H' : Hp} {k : Nat} {Q : VK}, Same H8 H' → k < ls.length → (∀ q x y, xs6[k]? = some (.ref q) → H' q = some (.tup [x, y]) → Ro H' x (uu ls k) → Ro H' y (vv ls k) → Q (.ref q) H') → rIxL K (.ref Ls) (.int ((k : Nat) : Int)) H' Q := fun {H' k Q} s' hk hq => by
    obtain ⟨v, ev⟩ : ∃ v, xs6[k]? = some v := ⟨_, List.getElem?_eq_getElem (by rw [rS8.1]; exact hk)⟩
    obtain ⟨l, el, q, x, y, rfl, eq, rx, ry⟩ := rS8.2 k v ev
    have e2 : ls.getD k ([], []) = l := by rw [List.getD_eq_getElem?_getD, el]; rfl
    refine ⟨Ls, xs6, _, _, rfl, rfl, SqL.of (s' _ _ eS8), atI_nat ev, hq q x y ev (s' _ _ eq) ?_ ?_⟩
    · unfold uu; rw [e2]; exact rx.kt (Kt.of s')
    · unfold vv; rw [e2]; exact ry.kt (Kt.of s')
  refine ⟨fun σ H' => ∃ x3 v8 v9 x10 x11, σ = [some (.ref a), some (.ref Lm), some (.ref Ls), x3, some v4, some v5, x6, some (.int c), some v8, some v9, x10, x11] ∧ Same H8 H' ∧ Po H' v9 (polyK c ls ls.length) ∧ Ro H' v8 (dueK ls ls.length), ?_, ?_⟩
  · refine ⟨_, rfl, Ls, xs6, rfl, .inl (SqL.of eS8), _, rfl, by omega, by rw [rS8.1]; omega, ?_⟩
    rw [rS8.1, show ((ls.length : Nat) : Int).toNat = ls.length by omega]
    refine for_rng (lo := 0) (n := ls.length) (fun k σ H' => ∃ x3 v8 v9 x10 x11, σ = [some (.ref a), some (.ref Lm), some (.ref Ls), x3, some v4, some v5, x6, some (.int c), some v8, some v9, x10, x11] ∧ Same H8 H' ∧ Po H' v9 (polyK c ls k) ∧ Ro H' v8 (dueK ls k)) ?_ ?_ ?_
    · exact ⟨x3, v8, v9, _, _, rfl, Same.refl _, po9, rv88⟩
    · rintro k σ H9 hk ⟨x3, v8, v9, x10, x11, rfl, s9, po, rd⟩
      rw [show (0 : Int) + (k : Int) = (k : Int) by omega]
      refine ⟨fun σ H' => ∃ v9, σ = [some (.ref a), some (.ref Lm), some (.ref Ls), some (.int (k : Int)), some v4, some v5, x6, some (.int c), some v8, some v9, x10, x11] ∧ Same H8 H' ∧ Po H' v9 (polyK c ls (k + 1)) ∧ Ro H' v8 (dueK ls k), ?_, ?_⟩
      · obtain ⟨okp, lpk, rpk, sk, hk'⟩ := poly_facts lok c0 k (by omega)
        have lk := lok.at hk
        refine ⟨_, rfl, _, rfl, _, rfl, lnat s9 hk fun q1 x1 y1 _ eq1 rx1 ry1 => ⟨q1, _, 1, _, rfl, rfl, SqT.of eq1, rfl, _, rfl, _, rfl, lnat s9 hk fun q2 x2 y2 _ eq2 rx2 ry2 => ⟨q2, _, 0, _, rfl, rfl, SqT.of eq2, rfl, sz (by simp), fun p1 np1 => ?_⟩⟩⟩
        have sn := same_new (o := .tup [y1, x2]) np1
        have p3 : (3 : Nat) * 3000009 ^ k ≤ 3 * 3000009 ^ 4 := Nat.mul_le_mul_left _ (Nat.pow_le_pow_right (by decide) (by omega))
        have p4 : c.natAbs * 3000009 ^ k ≤ 3 * 3000009 ^ k := Nat.mul_le_mul_right _ c3
        obtain ⟨qp, yp, rfl, ep, rp⟩ := po
        refine ⟨.ref qp, .ref p1, polyK c ls k, [vv ls k, uu ls k], 3 * 3000009 ^ 4, 3000000, rfl, ⟨qp, yp, rfl, sn _ _ ep, rp.kt (Kt.of sn)⟩, ⟨p1, _, rfl, upd_same, ro_cons (ry1.kt (Kt.of sn)) (ro_cons (rx2.kt (Kt.of sn)) (.nil _))⟩, ⟨a, (w8.to s9).to sn⟩, ⟨by omega, fun r hr => ⟨by have := rpk r hr; omega, fun z hz => ?_⟩⟩, ⟨by simp, fun r hr => ?_⟩, ⟨by decide +kernel, by decide +kernel⟩, fun z t' Hb sb pt okt _ ct' => ?_⟩
        · have := nm_mem hz
          have := nm_le_sum hr
          omega
        · have hu := lk.nu
          have hv := lk.nv
          have h1 := lk.l1
          have h2 := lk.l2
          simp only at hu hv h1 h2
          simp only [List.mem_cons, List.not_mem_nil, or_false] at hr
          rcases hr with rfl | rfl
          · exact ⟨by omega, fun z hz => by have := nm_mem hz; omega⟩
          · exact ⟨by omega, fun z hz => by have := nm_mem hz; omega⟩
        · have et := lineT_eq okp (fun z => by rw [z] at lpk; cases lpk) lk.ok lk.ne okt ct'
          refine ⟨z, rfl, s9.trans (sn.trans sb), ?_, rd.kt (Kt.of (sn.trans sb))⟩
          rw [polyK, ← et]
          exact pt
      rintro σ10 H10 ⟨v9', rfl, s10, po10, rd10⟩
      refine ⟨_, rfl, _, rfl, by omega, by omega, ?_⟩
      rw [show ((k : Nat) : Int).toNat = k by omega]
      refine for_rng (lo := 0) (n := k) (fun m σ H' => ∃ v8 x10 x11, σ = [some (.ref a), some (.ref Lm), some (.ref Ls), some (.int (k : Int)), some v4, some v5, x6, some (.int c), some v8, some v9', x10, x11] ∧ Same H8 H' ∧ Po H' v9' (polyK c ls (k + 1)) ∧ Ro H' v8 (stepR ls k (dueK ls k) m)) ?_ ?_ ?_
      · exact ⟨v8, x10, x11, rfl, s10, po10, rd10⟩
      · rintro m σ H11 hm ⟨v8, x10, x11, rfl, s11, po11, rd11⟩
        rw [show (0 : Int) + (m : Int) = (m : Int) by omega]
        have lk := lok.at hk
        have lm := lok.at (show m < ls.length by omega)
        have hu := lk.nu
        have hv := lk.nv
        have h1 := lk.l1
        have h2 := lk.l2
        have hu' := lm.nu
        have hv' := lm.nv
        have h1' := lm.l1
        have h2' := lm.l2
        simp only at hu hv h1 h2 hu' hv' h1' h2'
        have big : (3000000 : Nat) < 2 ^ 900 := by decide +kernel
        refine ⟨fun σ H' => ∃ z, σ = [some (.ref a), some (.ref Lm), some (.ref Ls), some (.int (k : Int)), some v4, some v5, x6, some (.int c), some v8, some v9', some (.int (m : Int)), some z] ∧ Same H11 H' ∧ Ro H' z (gapR ls k m), ?_, ?_⟩
        · refine ⟨_, rfl, _, rfl, lnat s11 hk fun q1 x1 y1 _ eq1 rx1 ry1 => ⟨q1, _, 0, _, rfl, rfl, SqT.of eq1, rfl, _, rfl, _, rfl, lnat s11 (by omega) fun q2 x2 y2 _ eq2 rx2 ry2 => ⟨q2, _, 1, _, rfl, rfl, SqT.of eq2, rfl, x1, y2, uu ls k, vv ls m, rfl, rx1, ry2, by omega, by omega, by omega, by omega, fun z1 Ha sa rz1 => ?_⟩⟩⟩
          have s12 := s11.trans sa
          refine ⟨_, rfl, _, rfl, lnat s12 hk fun q3 x3' y3 _ eq3 rx3 ry3 => ⟨q3, _, 1, _, rfl, rfl, SqT.of eq3, rfl, _, rfl, _, rfl, lnat s12 (by omega) fun q4 x4 y4 _ eq4 rx4 ry4 => ⟨q4, _, 0, _, rfl, rfl, SqT.of eq4, rfl, y3, x4, vv ls k, uu ls m, rfl, ry3, rx4, by omega, by omega, by omega, by omega, fun z2 Hb sb rz2 => ?_⟩⟩⟩
          have t1 := len_rowT (uu ls k) (vv ls m)
          have t2 := len_rowT (vv ls k) (uu ls m)
          exact ⟨z1, z2, _, _, rfl, rz1.kt (Kt.of sb), rz2, by omega, by omega, fun z3 Hc sc rz3 => ⟨z3, rfl, sa.trans (sb.trans sc), rz3⟩⟩
        rintro σ12 H12 ⟨z, rfl, s12, rz⟩
        obtain ⟨dn1, dn2⟩ := due_nm lok k (by omega)
        obtain ⟨sn1, sn2⟩ := step_nm lok hk ⟨dn1, dn2⟩ m (by omega)
        obtain ⟨gn1, gn2⟩ := gap_nm lok hk (show m < ls.length by omega)
        have hcn := cnt_le (show k ≤ 3 by omega) hm
        refine ⟨_, rfl, _, rfl, _, rfl, sz (by simp), fun p1 np1 => ?_⟩
        have sn := same_new (o := .lst [v8, z, z]) np1
        refine ⟨p1, [v8, z, z], [stepR ls k (dueK ls k) m, gapR ls k m, gapR ls k m], 1, rfl, upd_same, ro_cons ((rd11.kt (Kt.of s12)).kt (Kt.of sn)) (ro_cons (rz.kt (Kt.of sn)) (ro_cons (rz.kt (Kt.of sn)) (.nil _))), by simp, ?_, fun r hr => ?_, by decide, fun y Hd sd ry => ?_⟩
        · simp only [List.map_cons, List.map_nil, List.sum_cons, List.sum_nil]
          omega
        · simp only [List.mem_cons, List.not_mem_nil, or_false] at hr
          have g26 : nm (gapR ls k m) < 2 ^ 290 := Nat.lt_of_le_of_lt gn1 (by decide +kernel)
          rcases hr with rfl | rfl | rfl
          · exact Nat.lt_of_lt_of_le sn1 (Nat.pow_le_pow_right (by decide) (by omega))
          · exact g26
          · exact g26
        · have s13 := s12.trans (sn.trans sd)
          obtain ⟨qp, yp, rfl, ep, rp⟩ := po11
          exact ⟨y, _, _, rfl, s11.trans s13, ⟨qp, yp, rfl, s13 _ _ ep, rp.kt (Kt.of s13)⟩, by rw [stepR]; exact ry⟩
      · rintro σ H11 ⟨v8, x10, x11, rfl, s11, po11, rd11⟩
        exact ⟨_, v8, v9', x10, x11, rfl, s11, po11, by rw [dueK]; exact rd11⟩
    · rintro σ H9 ⟨x3, v8, v9, x10, x11, rfl, s9, po, rd⟩
      exact ⟨x3, v8, v9, x10, x11, rfl, s9, po, rd⟩
  rintro σ9 H9 ⟨x3, v8, v9, x10, x11, rfl, s9, po9, rd9⟩
  obtain ⟨dn1, dn2⟩ := due_nm lok ls.length (Nat.le_refl _)
  have hc6 := cnt_le4 l4
  refine ⟨fun σ H' => ∃ x3 v8, σ = [some (.ref a), some (.ref Lm), some (.ref Ls), x3, some v4, some v5, x6, some (.int c), some v8, some v9, x10, x11] ∧ Same H9 H' ∧ Ro H' v8 (scN c (dueK ls ls.length) (2 * ls.length - 2)), ?_, ?_⟩
  · refine ⟨_, rfl, Ls, xs6, rfl, .inl (SqL.of (s9 _ _ eS8)), _, _, rfl, rfl, ?_, _, _, rfl, rfl, ?_⟩
    · rw [rS8.1]; exact .inl ⟨by decide, by decide⟩
    rw [rS8.1]
    refine ⟨_, rfl, by omega, by omega, ?_⟩
    rw [show ((2 : Int) * ((ls.length : Nat) : Int) - 2).toNat = 2 * ls.length - 2 by omega]
    refine for_rng (lo := 0) (n := 2 * ls.length - 2) (fun i σ H' => ∃ x3 v8, σ = [some (.ref a), some (.ref Lm), some (.ref Ls), x3, some v4, some v5, x6, some (.int c), some v8, some v9, x10, x11] ∧ Same H9 H' ∧ Ro H' v8 (scN c (dueK ls ls.length) i)) ⟨x3, v8, rfl, Same.refl _, rd9⟩ ?_ ?_
    · rintro i σ Ha hi ⟨x3, v8, rfl, sa, ra⟩
      have := scN_len c (dueK ls ls.length) i
      exact ⟨_, rfl, _, rfl, v8, _, c, rfl, ra, by omega, by omega, fun z Hb sb rz => ⟨_, z, rfl, sa.trans sb, rz⟩⟩
    · rintro σ Ha ⟨x3, v8, rfl, sa, ra⟩
      exact ⟨x3, v8, rfl, sa, ra⟩
  rintro σ10 H10 ⟨x3, v8, rfl, s10, rd10⟩
  have sAll := s9.trans s10
  have w10 := w8.to sAll
  have po510 : Po H10 v5 p := by
    obtain ⟨q5, ys, rfl, e5, r5⟩ := po8
    exact ⟨q5, ys, rfl, sAll _ _ e5, r5.kt (Kt.of sAll)⟩
  have po910 : Po H10 v9 (polyK c ls ls.length) := by
    obtain ⟨q5, ys, rfl, e5, r5⟩ := po9
    exact ⟨q5, ys, rfl, s10 _ _ e5, r5.kt (Kt.of s10)⟩
  have nmr : ∀ r ∈ p, nm r ≤ 1500000 := fun r hr => Nat.le_trans (small_nm (prr r hr).2 (prr r hr).1) (by decide)
  have sum1 : sumN p < 2 ^ 88 := by
    have a := sum_le nmr
    have b : p.length * 1500000 ≤ 4 * 1500000 := Nat.mul_le_mul_right _ (by omega)
    have : (4 : Nat) * 1500000 < 2 ^ 88 := by decide +kernel
    omega
  obtain ⟨okq, lq, rq, sq, hq2⟩ := poly_facts lok c0 ls.length (Nat.le_refl _)
  have sum2 : sumN (polyK c ls ls.length) < 2 ^ 88 := by
    have p3 : (3 : Nat) * 3000009 ^ ls.length ≤ 3 * 3000009 ^ 4 := Nat.mul_le_mul_left _ (Nat.pow_le_pow_right (by decide) l4)
    have p4 : c.natAbs * 3000009 ^ ls.length ≤ 3 * 3000009 ^ ls.length := Nat.mul_le_mul_right _ c3
    have : (3 : Nat) * 3000009 ^ 4 < 2 ^ 88 := by decide +kernel
    omega
  have lead2 : WdA 29 (rw' (polyK c ls ls.length) ls.length) := fun z hz => by
    have a := nm_mem hz
    have p3 : (3 : Nat) * 9 ^ ls.length ≤ 3 * 9 ^ 4 := Nat.mul_le_mul_left _ (Nat.pow_le_pow_right (by decide) l4)
    have p4 : c.natAbs * 9 ^ ls.length ≤ 3 * 9 ^ ls.length := Nat.mul_le_mul_right _ c3
    have : (3 : Nat) * 9 ^ 4 < 2 ^ 29 := by decide
    unfold Wd
    omega
  have lead1 : WdA 29 (rw' p n) := fun z hz => by
    have := (prr _ (mem_len (p := p) (i := n) (by omega))).2 z hz
    unfold Wd
    omega
  have e1 := disc_form lp n1 n3
  have e2 := disc_lines (c := c) l2 l4
  have dl1 := disc_len (p := p) n1 (show n ≤ 4 by omega) (fun r hr => by have := (prr r hr).1; omega)
  have dn1' := disc_nm okp lp n1 (show n ≤ 4 by omega) sum1
  have dl2 := disc_len (p := polyK c ls ls.length) (show 1 ≤ ls.length by omega) l4 (fun r hr => by have := rq r hr; omega)
  have dn2' := disc_nm okq lq (show 1 ≤ ls.length by omega) l4 sum2
  refine ⟨_, rfl, a, v5, p, n, rfl, w10, po510, okp, lp, n1, by omega, fun r hr => by have := (prr r hr).1; omega, sum1, lead1, fun z1 Ha sa rz1 => ?_⟩
  have po9a : Po Ha v9 (polyK c ls ls.length) := by
    obtain ⟨q5, ys, rfl, e5, r5⟩ := po910
    exact ⟨q5, ys, rfl, sa _ _ e5, r5.kt (Kt.of sa)⟩
  refine ⟨_, rfl, a, v9, _, ls.length, rfl, w10.to sa, po9a, okq, lq, by omega, l4, fun r hr => by have := rq r hr; omega, sum2, lead2, fun z2 Hb sb rz2 => ⟨sz (by simp), fun T1 nT1 => ?_⟩⟩
  have sT := same_new (o := .lst [z1, z2]) nT1
  have wb := ((w10.to sa).to sb).to sT
  refine show_two wb upd_same ((rz1.kt (Kt.of sb)).kt (Kt.of sT)) (rz2.kt (Kt.of sT)) dn1' (by omega) dn2' (by omega) ?_
  have sAB := sa.trans (sb.trans sT)
  have po5b : Po (upd Hb T1 (.lst [z1, z2])) v5 p := by
    obtain ⟨q5, ys, rfl, e5, r5⟩ := po510
    exact ⟨q5, ys, rfl, sAB _ _ e5, r5.kt (Kt.of sAB)⟩
  refine ⟨_, rfl, v5, p, rfl, po5b, by omega, by omega, fun r hr => by have := (prr r hr).1; omega, fun r hr => Nat.lt_of_le_of_lt (nmr r hr) (by decide +kernel), fun z3 Hc sc rz3 => ⟨_, rfl, sz (by simp), fun T2 nT2 => ?_⟩⟩
  have sT2 := same_new (o := .lst [z3, v8]) nT2
  rw [← e1] at rz3
  rw [← e2] at rd10
  refine show_two ((wb.to sc).to sT2) upd_same (rz3.kt (Kt.of sT2)) (((rd10.kt (Kt.of sAB)).kt (Kt.of sc)).kt (Kt.of sT2)) dn1' (by omega) dn2' (by omega) ⟨rfl, ?_⟩
  rw [decide_eq_true rfl]
  exact q _ (k08.trans (Kp.of (sAll.trans (sAB.trans (sc.trans sT2)))))
end
end K27

set_option Elab.async false
set_option linter.all false
set_option maxRecDepth 100000
set_option maxHeartbeats 8000000
local macro_rules | `(tactic| walk_at "rd") => `(tactic| dsimp only [Evl.tCut, L2.tSeq, L2.tNext, L2.tRet, L2.tRetN, L2.tAsg, L2.gName, L2.tIfS, L2.tDrop, L2.tCons, L2.tNil, L2.tC, L2.tVar, L2.tCB, L2.tAndV, L2.tOrV, L2.tNotV, L2.tB, L2.tTest, L2.tOp, L2.tUn, L2.tNot, L2.tAnd, L2.tOr, L2.tIf, L2.tCall, L2.tTup, L2.tLst, L2.tNotT, L2.tYes, L2.gTup, L2.gCons, L2.gNil, L2.gSub, L2.tBM0, L2.tBM, L2.tWhile, L2.tFor, L2.iRng1, L2.iRng2, L2.tAugS, Tw.iEnumT, L2.tCKw, L2.tAug, L2.ipI, RT.iRevA, L2.iRevR, L2.tPar, L2.tPar3, L2.tSl, L2.tNoPart, L2.tPart, Tw.tRevT, L2.rAdd, L2.rSub, L2.tBits])
namespace K27
open PySem PySem.Spec PyProof.Rows L2 Tw
/-! the law -/
section
variable {P : Program} {w : World} {K : PySem.W.Frag} {mg : Str → Option Value} {base : Heap}
theorem scLaw27 : FnScope ["_law_script", "_law_at"] ["_law_script"] (defScope sLaw) := ⟨rfl, rfl, rfl, by decide +kernel, rfl, by decide +kernel, by decide +kernel⟩
theorem ok_law (D : Def K mg "law" sLaw ["_law_script"]) (nb : Nb mg) (c1 : Cal P w K mg base "_law_well" 1 ["_law_script", "_law_at"] (spWell K)) (c2 : CalG P w K mg base "_law_right" 40 ["_law_well_here"] spRight) :
    CalG P w K mg base "law" 41 ["_law_script"] (spLaw K) := by
  refine D.okG scLaw27 (fun vs H Q E h => ?_) (fun f cdv A out s H vs Q E hq hr h => ?_)
  · obtain ⟨p, ns, rfl, _⟩ := h; rfl
  obtain ⟨p, ns, rfl, hp, hl, q⟩ := h
  refine ⟨_, pss_one (ps_ret (pe_callB (id := "all") (r := rAll K) (cr_all rfl) (by rfl) nb.all (by decide +kernel) (pa_cons
    (pe_lc (own := [("_law_at", 1)]) (g := gName 1) (tt := tYes) rfl scLaw27.nd (pi_range1 (by rfl) nb.rng (pa_cons (pe_callB (id := "max") (call_max2 rfl) (by rfl) nb.max (by decide +kernel) (pa_cons pe_int (pa_cons
        (pe_callB (id := "min") (call_min2 rfl) (by rfl) nb.min (by decide +kernel) (pa_cons (pe_callB (id := "len") call_len_seq (by rfl) nb.len PySem.boot_len (pa_cons (pv 0) pa_nil)) (pa_cons pe_int pa_nil))) pa_nil))) pa_nil))
      (blkOk_by (N := ["_law_script", "_law_at"]) (sc := defScope sLaw) (by decide +kernel)) (fun _ _ _ _ _ => pg_name (i := 1) scLaw27.nd rfl (Or.inl rfl)) (fun _ _ _ _ _ => pts_nil)
      (fun _ _ _ _ _ => pe_calG c2 hq hr (by decide) (by rfl) (pa_cons (pe_cal c1 hr (by decide) (by rfl) (pa_cons (pv 0) (pa_cons (pv 1) pa_nil))) pa_nil))) pa_nil))), ?_⟩
  walk_at "rd"
  generalize hm : (if (2 : Int) < ((ns.map V.int).length : Int) then (2 : Int) else ((ns.map V.int).length : Int)) = m
  generalize hk : (if m > 1 then m else 1) = k
  have k0 : 1 ≤ k := by rw [← hk]; split <;> omega
  have k1 : k ≤ 4 := by
    have : m ≤ 4 := by rw [← hm]; split <;> omega
    rw [← hk]; split <;> omega
  refine lc_rng (n := k.toNat) (fun _ => V.bl true) (fun R hR => ?_) (by omega) (wipe1 _ 1) (fun i H1 hi s1 R kR => ?_) fun L H1 s1 nL hL => ?_
  · refine ⟨.ref p, rfl, p, _, rfl, .inl hp, _, _, rfl, _, _, rfl, k, ?_, by omega, by omega, hR⟩
    rw [hm, hk]
  · refine ⟨.ref p, rfl, .int (0 + (i : Int)), rfl, p, ns, _, rfl, s1.seq hp, hl, by omega, fun a H2 s2 na w2 => ⟨a, rfl, w2, fun H3 k3 => kR H3 (same_kp s2 na k3)⟩⟩
  · refine ⟨L, (List.range k.toNat).map (fun _ => true), rfl, SqL.of (by rw [List.map_map]; exact hL), ?_⟩
    have e : ((List.range k.toNat).map (fun _ => true)).all id = true := by
      rw [List.all_eq_true]
      intro b hb
      obtain ⟨_, _, rfl⟩ := List.mem_map.mp hb
      rfl
    rw [e]
    exact q H1
end
end K27

set_option Elab.async false
set_option linter.all false
set_option maxRecDepth 100000
set_option maxHeartbeats 4000000
/-! the end of a law whose def wants quiet -/
namespace Tw
open PySem PySem.Spec PyProof.Rows L2

/-- a promise wide enough that says nothing of exceptions, over a heap in which the script alone may be known -/
theorem law_quietP {P : Program} {w : World} {K : PySem.W.Frag} {mg mb : Str → Option Value} {k : Nat} {fa a : Addr} {fd : FuncData}
    {x : Str} {sp : Sp} {s₁ : Shared} {vs : List Value} {ns : List Int} (KX : K.In s₁.heap) (hns : s₁.heap.Ns mainGlobals mg)
    (hb : s₁.heap.Ns builtinsNs mb) (hbb : ∀ x : Str, x ≠ "__name__" → mb x = bootBuiltins x) (hlim : s₁.heap.NoLimit) (hN : s₁.heap.NoSeer)
    (hg : s₁.gens = #[]) (ha : s₁.heap.get? a = some { cls := .type "list", data := .seq vs.toArray }) (hi : IntsAre vs ns)
    (hl : ns.length ≤ sizeLine) (hr : Room k callerA)
    (F : ∀ base : Heap, K.In base → base.Ns mainGlobals mg → base.NoSeer → FnG P w K mg base k fa fd [x] sp)
    (hbind : ∀ (s : Shared) (u : Value), BindsTo s fd ⟨[u], []⟩ [(x, u)])
    (hsp : ∀ H : Hp, Only H → SqL K H a (ns.map V.int) → sp [.ref a] H (fun v _ => v = .bl true) E0) :
    codeAny (model P w) callerA (.call (.ref fa) ⟨[.ref a], []⟩)
      (fun r s' => r = .ok (.ret (.bool true)) ∧ OldK s₁.heap s'.heap ∧ s'.os = s₁.os ∧ AllBare s'.gens) s₁ := by
  have hv := vals_ints hi
  have hn := hi.length
  have main : ∀ H : Hp, Only H → SqL K H a (ns.map V.int) → HOk P w H s₁.heap → (∀ b u, H b = some u → b = a ∧ K.lookup a = none) →
      codeAny (model P w) callerA (.call (.ref fa) ⟨[.ref a], []⟩)
        (fun r s' => r = .ok (.ret (.bool true)) ∧ OldK s₁.heap s'.heap ∧ s'.os = s₁.os ∧ AllBare s'.gens) s₁ := by
    intro H hO hS hok hA
    have dictFree : ∀ {b : Addr} {o : Obj} {es : Array DictEntry} {ep : Nat},
        s₁.heap.get? b = some o → o.data = .dict es ep → H b = none := by
      intro b o es ep e d
      cases q : H b with
      | none => rfl
      | some u =>
        obtain ⟨e1, _⟩ := hA b u q
        rw [e1, ha] at e
        injection e with e
        rw [← e] at d
        exact absurd d (by intro z; cases z)
    have nsB : ∀ {b : Addr} {m : Str → Option Value}, s₁.heap.Ns b m → (hidT s₁.heap H).Ns b m := by
      rintro b m ⟨o, es, ep, e, d, r⟩
      exact ⟨o, es, ep, hidT_get e (dictFree e d), d, r⟩
    have kB : K.In (hidT s₁.heap H) := by
      intro b o e
      refine hidT_get (KX b o e) ?_
      cases q : H b with
      | none => rfl
      | some u =>
        obtain ⟨e1, e2⟩ := hA b u q
        rw [e1, e2] at e
        cases e
    have hM : Mod K mg (hidT s₁.heap H) := by
      obtain ⟨mc, l1, l2⟩ := hlim
      exact ⟨kB, nsB hns, ⟨mb, nsB hb, hbb⟩, ⟨mc, nsB l1, l2⟩⟩
    have sB : (hidT s₁.heap H).NoSeer := by
      obtain ⟨⟨mc, c1, c2⟩, ⟨mm, m1, m2⟩, ⟨mb', i1, i2⟩, ⟨mg', bm, ob, g1, g2, g3, g4, g5⟩⟩ := hN
      refine ⟨⟨mc, nsB c1, c2⟩, ⟨mm, nsB m1, m2⟩, ⟨mb', nsB i1, i2⟩, ⟨mg', bm, ob, nsB g1, g2, hidT_get g3 ?_, g4, g5⟩⟩
      cases q : H bm with
      | none => rfl
      | some u =>
        obtain ⟨e1, _⟩ := hA bm u q
        rw [e1, ha] at g3
        injection g3 with g3
        rw [← g3] at g4
        exact absurd g4 (by simp)
    have noB : ∀ b : Addr, b ∈ frs ([] : List Env) → False := fun b z => by simp [frs] at z
    have e0 : Env0 P w K mg (hidT s₁.heap H) callerA [] s₁ H :=
      ⟨rfl, hM, fun b o e => of_hidT e, Nat.le_of_eq (hidT_size _ _), trivial, fun b z => (noB b z).elim, hok, .of_eq hg⟩
    have go := (F _ kB (nsB hns) sB).goes callerA [] s₁ H ⟨[.ref a], []⟩ [.ref a] [.ref a] (fun v _ => v = .bl true) E0 rfl hr e0
      (hbind s₁ (.ref a)) (.cons rfl .nil) (hsp H hO hS)
    refine codeAny_mono go fun r s' h => ?_
    cases r with
    | error e => exact False.elim h
    | ok fl =>
      cases fl with
      | next => exact False.elim h
      | brk => exact False.elim h
      | cont => exact False.elim h
      | ret u =>
        obtain ⟨v, H', os, bare, un, hok', rv, q⟩ := h
        subst q
        cases (show u = Value.bool true from rv)
        refine ⟨rfl, OldK.of_keep fun b o e => ?_, os, bare⟩
        cases q : H b with
        | none => exact un.keep b o e q (fun z => noB b z) (by simp)
        | some u =>
          cases hO b with
          | inl z => rw [q] at z; cases z
          | inr z =>
            obtain ⟨ob, xs, z⟩ := z
            have f1 := (hok b _ z).1
            have f2 := (hok' b _ (un.frzs b ob _ z)).1
            rw [e] at f1
            rw [f2, ← f1]
  cases hk : K.lookup a with
  | some o =>
    have e := KX a o hk
    rw [ha] at e
    injection e with e
    subst e
    refine main (fun _ => none) (fun _ => Or.inl rfl) (Or.inr ⟨_, vs.toArray, _, hk, rfl, rfl, rfl, ?_, by simpa using hv⟩) ?_ ?_
    · rw [List.size_toArray, hn]; exact hl
    · intro b u z; exact absurd z (by intro y; cases y)
    · intro b u z; exact absurd z (by intro y; cases y)
  | none =>
    let Ha : Hp := fun b => if b = a then some (.frz { cls := .type "list", data := .seq vs.toArray } (.lst (ns.map V.int))) else none
    have ya : ∀ b, b = a → Ha b = some (.frz { cls := .type "list", data := .seq vs.toArray } (.lst (ns.map V.int))) := fun b h => if_pos h
    have na : ∀ b, b ≠ a → Ha b = none := fun b h => if_neg h
    refine main Ha (fun b => ?_) (Or.inl (Or.inr ⟨_, ya a rfl⟩)) (fun b u z => ?_) (fun b u z => ?_)
    · by_cases h : b = a
      · exact Or.inr ⟨_, _, ya b h⟩
      · exact Or.inl (na b h)
    · by_cases h : b = a
      · rw [ya b h] at z
        injection z with z
        subst z h
        exact ⟨ha, by rw [List.length_map]; exact hl, vs, _, hv, ha⟩
      · rw [na b h] at z; cases z
    · by_cases h : b = a
      · exact ⟨h, hk⟩
      · rw [na b h] at z; cases z

theorem walk_quietP {l : PySem.W.OpenLaw} {n k : Nat} {q : Program} {loose : List Str} {XP : (Str → Option Value) → Heap → Prop}
    {YP : World → Heap → Prop} {d : DefRec} {K : Params → PySem.W.Frag} {sp : PySem.W.Frag → Sp} {x : Str} (hn : l.most = some n)
    (hn2 : n ≤ sizeLine) (hdf : d.params.defaults = []) (hr : Room k callerA)
    (hY : ∀ (w : World) (h : Heap), YP w h → (K w.params).In h) (hi : importsNone q = true)
    (F : ∀ (w : World) (mg : Str → Option Value) (fa : Addr) (h : Heap), (K w.params).In h → h.Ns mainGlobals mg →
      mg d.name = some (.ref fa) → ∃ fd : FuncData, (∀ (s : Shared) (u : Value), BindsTo s fd ⟨[u], []⟩ [(x, u)]) ∧
        ∀ base : Heap, (K w.params).In base → base.Ns mainGlobals mg → base.NoSeer → FnG l.prog w (K w.params) mg base k fa fd [x] (sp (K w.params)))
    (hsp : ∀ (K : PySem.W.Frag) (H : Hp) (a : Addr) (ns : List Int), ns.length ≤ n → Only H → SqL K H a (ns.map V.int) →
      sp K [.ref a] H (fun v _ => v = .bl true) E0) :
    PySem.W.WalkO q loose XP YP l.row.toRowW d [] (fun f vs => PySem.call f vs) := by
  refine Att.attach_call hn hdf ?_
  intro w s₀ s₁ mg mb fa o pm cd doc a vs ns G Y ho hd hcd hmg hobj hints hlen hg
  have kx := hY w _ Y
  obtain ⟨fd, hb, hF⟩ := F w mg fa _ kx G.T.g hmg
  exact law_quietP kx G.T.g G.T.b G.T.builtins G.T.nolimit (G.T.seer hi) hg hobj hints (Nat.le_trans hlen hn2) hr hF hb
    fun H hO hS => hsp _ H a ns hlen hO hS
theorem end_lawB {P : Program} {w : World} {K : PySem.W.Frag} {mg : Str → Option Value} {x y : Str} {st : Stmt} {k : Nat} {sp : Sp} {fa : Addr} {T : Heap → Prop} (D : Def K mg x st [y]) (hfa : mg x = some (.ref fa)) (F : ∀ base : Heap, T base → CalG P w K mg base x k [y] sp)
    (hb : ∀ (kV doc pm : Value) (an : Option Addr) (cdv ct u : Value), bindArgs (PySem.W.fnOf x x (defArgs st) (defBody st) (defScope st) .none kV doc pm an cdv ct) ⟨[u], []⟩ = pure [(y, u)]) :
    ∃ fd : FuncData, (∀ (s : Shared) (u : Value), BindsTo s fd ⟨[u], []⟩ [(y, u)]) ∧ ∀ base : Heap, K.In base → base.Ns mainGlobals mg → T base → FnG P w K mg base k fa fd [y] sp := by
  obtain ⟨f, fd, F', m, _⟩ := D
  have e1 : f = fa := by rw [hfa] at m; injection m with z; injection z with z; exact z.symm
  subst e1
  obtain ⟨oc, od, kV, doc, pm, an, cdv, ct, osl, e2, lk, _⟩ := F'.ex
  refine ⟨fd, fun s u => by rw [e2]; exact .of_eq (hb kV doc pm an cdv ct u), fun base _ _ tb => ?_⟩
  obtain ⟨f2, fd2, G, m2, _, _, oc2, od2, osl2, lk2⟩ := F base tb
  have e3 : f2 = f := by rw [hfa] at m2; injection m2 with z; injection z with z; exact z.symm
  subst e3
  rw [lk] at lk2
  injection lk2 with lk2
  injection lk2 with _ _ e4 _
  injection e4 with e4
  subst e4
  rw [e2] at *
  exact G
end Tw

set_option Elab.async false
set_option linter.all false
set_option maxRecDepth 100000
set_option maxHeartbeats 8000000
namespace K27
open PySem PySem.Spec PyProof.Rows L2 Tw
/-- all defs and names, put together -/
theorem whole {P : Program} {w : World} {K : PySem.W.Frag} {mg : Str → Option Value} (nb : Nb mg) (ht : P.given.tree = none)
    (d0 : Def K mg "is_whole" sWhole ["value"])
    (d1 : Def K mg "power" sPower ["base", "many"])
    (d2 : Def K mg "trimmed" sTrimmed ["numbers"])
    (d3 : Def K mg "row_scaled" sPRScaled ["row", "whole"])
    (d4 : Def K mg "packed" sPacked ["row", "bits"])
    (d5 : Def K mg "unpacked" sUnpacked ["value", "bits"])
    (d6 : Def K mg "row_quotient" sRQuot ["row", "by"])
    (d7 : Def K mg "full_rest" sFRest ["row", "by"])
    (d8 : Def K mg "own_head" sOwnH ["head", "scale", "steps"])
    (d9 : Def K mg "subresultants" sSubres ["one", "other"])
    (d10 : Def K mg "whole_resultant" sWRes ["one", "other"])
    (d11 : Def K mg "sum_of_sizes" sSizes ["poly"])
    (d12 : Def K mg "bits_for" sBitsFor ["one", "other"])
    (d13 : Def K mg "packed_poly" sPackedP ["poly", "bits"])
    (d14 : Def K mg "poly_resultant" sPRes ["one", "other"])
    (d15 : Def K mg "poly_derived" sPDer ["poly"])
    (d16 : Def K mg "poly_discriminant" sPDisc ["poly"])
    (d17 : Def K mg "is_row" sRow ["value"])
    (d18 : Def K mg "is_poly" sPoly ["value"])
    (d19 : Def K mg "discriminant" sDisc ["poly"])
    (d20 : Def K mg "_law_well" sWell ["_law_script", "_law_at"])
    (d21 : Def K mg "_law_draw" sDraw ["_law_well_here", "_law_many"])
    (d22 : Def K mg "_law_pick" sPick ["_law_well_here", "_law_some"])
    (d23 : Def K mg "_law_trim" sTrim ["_law_some"])
    (d24 : Def K mg "_law_scaled" sLScaled ["_law_row_here", "_law_by"])
    (d25 : Def K mg "_law_row_sum" sRSum ["_law_one", "_law_two"])
    (d26 : Def K mg "_law_row_less" sRLess ["_law_one", "_law_two"])
    (d27 : Def K mg "_law_row_times" sRTimes ["_law_one", "_law_two"])
    (d28 : Def K mg "_law_poly_times" sPTimes ["_law_one", "_law_two"])
    (d29 : Def K mg "_law_number" sNum ["_law_well_here"])
    (d30 : Def K mg "_law_row" sLRow ["_law_well_here", "_law_many"])
    (d31 : Def K mg "_law_all" sAll ["_law_by", "_law_some"])
    (d32 : Def K mg "_law_formula" sForm ["_law_one"])
    (d33 : Def K mg "_law_right" sRight ["_law_well_here"])
    (d34 : Def K mg "law" sLaw ["_law_script"])
    (base : Heap) (hN : base.NoSeer) : CalG P w K mg base "law" 41 ["_law_script"] (spLaw K) := by
  have c_whole := ok_whole (P := P) (w := w) (base := base) d0 nb
  have c_row := ok_row d17 nb c_whole
  have c_poly := ok_poly d18 nb c_row
  have c_power := ok_power (P := P) (w := w) (base := base) d1
  have c_tr := ok_trimmed (P := P) (w := w) (base := base) d2 nb
  have c_scal := ok_prscaled (P := P) (w := w) (base := base) d3 nb
  have c_pack := ok_packed (P := P) (w := w) (base := base) d4 nb
  have c_unp := ok_unpacked (P := P) (w := w) (base := base) d5 nb
  have c_oh := ok_ownH (P := P) (w := w) (base := base) d8 nb hN ht
  have c_fr := ok_fRest d7 nb c_tr
  have c_sub := ok_subres d9 nb hN ht c_oh c_power c_fr
  have c_wr := ok_wres d10 nb c_sub
  have c_sz := ok_sizes (P := P) (w := w) (base := base) d11 nb
  have c_bf := ok_bitsFor d12 nb c_power c_sz
  have c_pp := ok_packedP d13 nb c_pack
  have c_pr := ok_pres d14 c_bf c_pp c_wr c_unp
  have c_q := ok_quot (P := P) (w := w) (base := base) d6 nb
  have c_pd := ok_pder d15 nb nb.enm c_scal
  have c_pdi := ok_pdisc d16 nb c_pr c_pd c_q c_scal
  have c_disc := ok_disc d19 nb c_poly c_pdi
  have c_well := ok_well (P := P) (w := w) (base := base) d20 nb
  have c_draw := ok_draw (P := P) (w := w) (base := base) d21 nb
  have c_pick := ok_pick27 d22 nb c_draw
  have c_trim := ok_trim (P := P) (w := w) (base := base) d23 nb
  have c_ls := ok_lscaled d24 c_trim
  have c_rs := ok_rsum d25 nb c_trim
  have c_rt := ok_rtimes d27 nb c_trim
  have c_pt := ok_ptimes d28 nb c_trim c_rs c_rt
  have c_num := ok_num d29 c_draw
  have c_lrow := ok_lrow d30 nb c_draw c_num (c_trim.imp trim_int)
  have c_less := ok_less d26 (c_rs.imp ra_imp) (c_ls.imp rs_imp)
  have c_all := ok_all d31 (c_rt.imp rt_imp)
  have c_form := ok_form d32 nb c_all (c_rs.imp ra_imp)
  have c_right := ok_right d33 nb d19 c_disc c_form c_draw c_lrow c_pick (c_ls.imp rs_imp) c_pt c_less (c_rt.imp rt_imp) c_all
  exact ok_law d34 nb c_well c_right
end K27

set_option Elab.async false
set_option linter.all false
set_option maxRecDepth 100000
open PySem PySem.W PyProof.Rows
set_option maxHeartbeats 0 in
theorem PySem.Challenge.cw_twoletters_k27_discriminants_of_degrees_holds : PySem.Challenge.rw_twoletters_k27_discriminants_of_degrees.Holds := by
  w_on; o_law; k_head; (case hw => w_witness2)
  k_fill
  refine Tw.walk_quietP (l := PySem.Challenge.rw_twoletters_k27_discriminants_of_degrees) (n := 63) (k := 41) (x := "_law_script") (sp := K27.spLaw) rfl (by decide) rfl ⟨rfl, by decide, by decide⟩ (fun w h Y => PySem.W.kIn_of Y) (by decide +kernel) ?F
    (fun K H a ns hl _ hS => ⟨a, ns, rfl, hS, hl, fun _ => rfl⟩)
  case F =>
    intro w mg fa h KX G hmg
    refine' Tw.with_def (x := "is_whole") (st := K27.sWhole) (ps := ["value"]) KX G ?a ?l ?c ?k (fun _ _ _ _ _ _ us hl => match us, hl with | [_], _ => rfl) (fun d0 => ?_)
    (case a => k_is); (case l => k_is); (case c => k_is); (case k => k_is)
    refine' Tw.with_def (x := "power") (st := K27.sPower) (ps := ["base", "many"]) KX G ?a ?l ?c ?k (fun _ _ _ _ _ _ us hl => match us, hl with | [_, _], _ => rfl) (fun d1 => ?_)
    (case a => k_is); (case l => k_is); (case c => k_is); (case k => k_is)
    refine' Tw.with_def (x := "trimmed") (st := K27.sTrimmed) (ps := ["numbers"]) KX G ?a ?l ?c ?k (fun _ _ _ _ _ _ us hl => match us, hl with | [_], _ => rfl) (fun d2 => ?_)
    (case a => k_is); (case l => k_is); (case c => k_is); (case k => k_is)
    refine' Tw.with_def (x := "row_scaled") (st := K27.sPRScaled) (ps := ["row", "whole"]) KX G ?a ?l ?c ?k (fun _ _ _ _ _ _ us hl => match us, hl with | [_, _], _ => rfl) (fun d3 => ?_)
    (case a => k_is); (case l => k_is); (case c => k_is); (case k => k_is)
    refine' Tw.with_def (x := "packed") (st := K27.sPacked) (ps := ["row", "bits"]) KX G ?a ?l ?c ?k (fun _ _ _ _ _ _ us hl => match us, hl with | [_, _], _ => rfl) (fun d4 => ?_)
    (case a => k_is); (case l => k_is); (case c => k_is); (case k => k_is)
    refine' Tw.with_def (x := "unpacked") (st := K27.sUnpacked) (ps := ["value", "bits"]) KX G ?a ?l ?c ?k (fun _ _ _ _ _ _ us hl => match us, hl with | [_, _], _ => rfl) (fun d5 => ?_)
    (case a => k_is); (case l => k_is); (case c => k_is); (case k => k_is)
    refine' Tw.with_def (x := "row_quotient") (st := K27.sRQuot) (ps := ["row", "by"]) KX G ?a ?l ?c ?k (fun _ _ _ _ _ _ us hl => match us, hl with | [_, _], _ => rfl) (fun d6 => ?_)
    (case a => k_is); (case l => k_is); (case c => k_is); (case k => k_is)
    refine' Tw.with_def (x := "full_rest") (st := K27.sFRest) (ps := ["row", "by"]) KX G ?a ?l ?c ?k (fun _ _ _ _ _ _ us hl => match us, hl with | [_, _], _ => rfl) (fun d7 => ?_)
    (case a => k_is); (case l => k_is); (case c => k_is); (case k => k_is)
    refine' Tw.with_def (x := "own_head") (st := K27.sOwnH) (ps := ["head", "scale", "steps"]) KX G ?a ?l ?c ?k (fun _ _ _ _ _ _ us hl => match us, hl with | [_, _, _], _ => rfl) (fun d8 => ?_)
    (case a => k_is); (case l => k_is); (case c => k_is); (case k => k_is)
    refine' Tw.with_def (x := "subresultants") (st := K27.sSubres) (ps := ["one", "other"]) KX G ?a ?l ?c ?k (fun _ _ _ _ _ _ us hl => match us, hl with | [_, _], _ => rfl) (fun d9 => ?_)
    (case a => k_is); (case l => k_is); (case c => k_is); (case k => k_is)
    refine' Tw.with_def (x := "whole_resultant") (st := K27.sWRes) (ps := ["one", "other"]) KX G ?a ?l ?c ?k (fun _ _ _ _ _ _ us hl => match us, hl with | [_, _], _ => rfl) (fun d10 => ?_)
    (case a => k_is); (case l => k_is); (case c => k_is); (case k => k_is)
    refine' Tw.with_def (x := "sum_of_sizes") (st := K27.sSizes) (ps := ["poly"]) KX G ?a ?l ?c ?k (fun _ _ _ _ _ _ us hl => match us, hl with | [_], _ => rfl) (fun d11 => ?_)
    (case a => k_is); (case l => k_is); (case c => k_is); (case k => k_is)
    refine' Tw.with_def (x := "bits_for") (st := K27.sBitsFor) (ps := ["one", "other"]) KX G ?a ?l ?c ?k (fun _ _ _ _ _ _ us hl => match us, hl with | [_, _], _ => rfl) (fun d12 => ?_)
    (case a => k_is); (case l => k_is); (case c => k_is); (case k => k_is)
    refine' Tw.with_def (x := "packed_poly") (st := K27.sPackedP) (ps := ["poly", "bits"]) KX G ?a ?l ?c ?k (fun _ _ _ _ _ _ us hl => match us, hl with | [_, _], _ => rfl) (fun d13 => ?_)
    (case a => k_is); (case l => k_is); (case c => k_is); (case k => k_is)
    refine' Tw.with_def (x := "poly_resultant") (st := K27.sPRes) (ps := ["one", "other"]) KX G ?a ?l ?c ?k (fun _ _ _ _ _ _ us hl => match us, hl with | [_, _], _ => rfl) (fun d14 => ?_)
    (case a => k_is); (case l => k_is); (case c => k_is); (case k => k_is)
    refine' Tw.with_def (x := "poly_derived") (st := K27.sPDer) (ps := ["poly"]) KX G ?a ?l ?c ?k (fun _ _ _ _ _ _ us hl => match us, hl with | [_], _ => rfl) (fun d15 => ?_)
    (case a => k_is); (case l => k_is); (case c => k_is); (case k => k_is)
    refine' Tw.with_def (x := "poly_discriminant") (st := K27.sPDisc) (ps := ["poly"]) KX G ?a ?l ?c ?k (fun _ _ _ _ _ _ us hl => match us, hl with | [_], _ => rfl) (fun d16 => ?_)
    (case a => k_is); (case l => k_is); (case c => k_is); (case k => k_is)
    refine' Tw.with_def (x := "is_row") (st := K27.sRow) (ps := ["value"]) KX G ?a ?l ?c ?k (fun _ _ _ _ _ _ us hl => match us, hl with | [_], _ => rfl) (fun d17 => ?_)
    (case a => k_is); (case l => k_is); (case c => k_is); (case k => k_is)
    refine' Tw.with_def (x := "is_poly") (st := K27.sPoly) (ps := ["value"]) KX G ?a ?l ?c ?k (fun _ _ _ _ _ _ us hl => match us, hl with | [_], _ => rfl) (fun d18 => ?_)
    (case a => k_is); (case l => k_is); (case c => k_is); (case k => k_is)
    refine' Tw.with_def (x := "discriminant") (st := K27.sDisc) (ps := ["poly"]) KX G ?a ?l ?c ?k (fun _ _ _ _ _ _ us hl => match us, hl with | [_], _ => rfl) (fun d19 => ?_)
    (case a => k_is); (case l => k_is); (case c => k_is); (case k => k_is)
    refine' Tw.with_def (x := "_law_well") (st := K27.sWell) (ps := ["_law_script", "_law_at"]) KX G ?a ?l ?c ?k (fun _ _ _ _ _ _ us hl => match us, hl with | [_, _], _ => rfl) (fun d20 => ?_)
    (case a => k_is); (case l => k_is); (case c => k_is); (case k => k_is)
    refine' Tw.with_def (x := "_law_draw") (st := K27.sDraw) (ps := ["_law_well_here", "_law_many"]) KX G ?a ?l ?c ?k (fun _ _ _ _ _ _ us hl => match us, hl with | [_, _], _ => rfl) (fun d21 => ?_)
    (case a => k_is); (case l => k_is); (case c => k_is); (case k => k_is)
    refine' Tw.with_def (x := "_law_pick") (st := K27.sPick) (ps := ["_law_well_here", "_law_some"]) KX G ?a ?l ?c ?k (fun _ _ _ _ _ _ us hl => match us, hl with | [_, _], _ => rfl) (fun d22 => ?_)
    (case a => k_is); (case l => k_is); (case c => k_is); (case k => k_is)
    refine' Tw.with_def (x := "_law_trim") (st := K27.sTrim) (ps := ["_law_some"]) KX G ?a ?l ?c ?k (fun _ _ _ _ _ _ us hl => match us, hl with | [_], _ => rfl) (fun d23 => ?_)
    (case a => k_is); (case l => k_is); (case c => k_is); (case k => k_is)
    refine' Tw.with_def (x := "_law_scaled") (st := K27.sLScaled) (ps := ["_law_row_here", "_law_by"]) KX G ?a ?l ?c ?k (fun _ _ _ _ _ _ us hl => match us, hl with | [_, _], _ => rfl) (fun d24 => ?_)
    (case a => k_is); (case l => k_is); (case c => k_is); (case k => k_is)
    refine' Tw.with_def (x := "_law_row_sum") (st := K27.sRSum) (ps := ["_law_one", "_law_two"]) KX G ?a ?l ?c ?k (fun _ _ _ _ _ _ us hl => match us, hl with | [_, _], _ => rfl) (fun d25 => ?_)
    (case a => k_is); (case l => k_is); (case c => k_is); (case k => k_is)
    refine' Tw.with_def (x := "_law_row_less") (st := K27.sRLess) (ps := ["_law_one", "_law_two"]) KX G ?a ?l ?c ?k (fun _ _ _ _ _ _ us hl => match us, hl with | [_, _], _ => rfl) (fun d26 => ?_)
    (case a => k_is); (case l => k_is); (case c => k_is); (case k => k_is)
    refine' Tw.with_def (x := "_law_row_times") (st := K27.sRTimes) (ps := ["_law_one", "_law_two"]) KX G ?a ?l ?c ?k (fun _ _ _ _ _ _ us hl => match us, hl with | [_, _], _ => rfl) (fun d27 => ?_)
    (case a => k_is); (case l => k_is); (case c => k_is); (case k => k_is)
    refine' Tw.with_def (x := "_law_poly_times") (st := K27.sPTimes) (ps := ["_law_one", "_law_two"]) KX G ?a ?l ?c ?k (fun _ _ _ _ _ _ us hl => match us, hl with | [_, _], _ => rfl) (fun d28 => ?_)
    (case a => k_is); (case l => k_is); (case c => k_is); (case k => k_is)
    refine' Tw.with_def (x := "_law_number") (st := K27.sNum) (ps := ["_law_well_here"]) KX G ?a ?l ?c ?k (fun _ _ _ _ _ _ us hl => match us, hl with | [_], _ => rfl) (fun d29 => ?_)
    (case a => k_is); (case l => k_is); (case c => k_is); (case k => k_is)
    refine' Tw.with_def (x := "_law_row") (st := K27.sLRow) (ps := ["_law_well_here", "_law_many"]) KX G ?a ?l ?c ?k (fun _ _ _ _ _ _ us hl => match us, hl with | [_, _], _ => rfl) (fun d30 => ?_)
    (case a => k_is); (case l => k_is); (case c => k_is); (case k => k_is)
    refine' Tw.with_def (x := "_law_all") (st := K27.sAll) (ps := ["_law_by", "_law_some"]) KX G ?a ?l ?c ?k (fun _ _ _ _ _ _ us hl => match us, hl with | [_, _], _ => rfl) (fun d31 => ?_)
    (case a => k_is); (case l => k_is); (case c => k_is); (case k => k_is)
    refine' Tw.with_def (x := "_law_formula") (st := K27.sForm) (ps := ["_law_one"]) KX G ?a ?l ?c ?k (fun _ _ _ _ _ _ us hl => match us, hl with | [_], _ => rfl) (fun d32 => ?_)
    (case a => k_is); (case l => k_is); (case c => k_is); (case k => k_is)
    refine' Tw.with_def (x := "_law_right") (st := K27.sRight) (ps := ["_law_well_here"]) KX G ?a ?l ?c ?k (fun _ _ _ _ _ _ us hl => match us, hl with | [_], _ => rfl) (fun d33 => ?_)
    (case a => k_is); (case l => k_is); (case c => k_is); (case k => k_is)
    refine' Tw.with_def (x := "law") (st := K27.sLaw) (ps := ["_law_script"]) KX G ?a ?l ?c ?k (fun _ _ _ _ _ _ us hl => match us, hl with | [_], _ => rfl) (fun d34 => ?_)
    (case a => k_is); (case l => k_is); (case c => k_is); (case k => k_is)
    refine' Tw.with_no (x := "isinstance") KX G ?z (fun z0 => ?_)
    (case z => k_is)
    refine' Tw.with_no (x := "int") KX G ?z (fun z1 => ?_)
    (case z => k_is)
    refine' Tw.with_no (x := "bool") KX G ?z (fun z2 => ?_)
    (case z => k_is)
    refine' Tw.with_no (x := "tuple") KX G ?z (fun z3 => ?_)
    (case z => k_is)
    refine' Tw.with_no (x := "all") KX G ?z (fun z4 => ?_)
    (case z => k_is)
    refine' Tw.with_no (x := "len") KX G ?z (fun z5 => ?_)
    (case z => k_is)
    refine' Tw.with_no (x := "list") KX G ?z (fun z6 => ?_)
    (case z => k_is)
    refine' Tw.with_no (x := "divmod") KX G ?z (fun z7 => ?_)
    (case z => k_is)
    refine' Tw.with_no (x := "range") KX G ?z (fun z8 => ?_)
    (case z => k_is)
    refine' Tw.with_no (x := "max") KX G ?z (fun z9 => ?_)
    (case z => k_is)
    refine' Tw.with_no (x := "min") KX G ?z (fun z10 => ?_)
    (case z => k_is)
    refine' Tw.with_no (x := "abs") KX G ?z (fun z11 => ?_)
    (case z => k_is)
    refine' Tw.with_no (x := "repr") KX G ?z (fun z12 => ?_)
    (case z => k_is)
    refine' Tw.with_no (x := "reversed") KX G ?z (fun z13 => ?_)
    (case z => k_is)
    refine' Tw.with_no (x := "sum") KX G ?z (fun z14 => ?_)
    (case z => k_is)
    refine' Tw.with_no (x := "zip") KX G ?z (fun z15 => ?_)
    (case z => k_is)
    refine' Tw.with_no (x := "any") KX G ?z (fun z16 => ?_)
    (case z => k_is)
    refine' Tw.with_no (x := "enumerate") KX G ?z (fun z17 => ?_)
    (case z => k_is)
    exact Tw.end_lawB d34 hmg (fun base hN => K27.whole ⟨z0, z1, z2, z3, z4, z5, z6, z7, z8, z9, z10, z11, z12, z13, z14, z15, z16, z17⟩ rfl d0 d1 d2 d3 d4 d5 d6 d7 d8 d9 d10 d11 d12 d13 d14 d15 d16 d17 d18 d19 d20 d21 d22 d23 d24 d25 d26 d27 d28 d29 d30 d31 d32 d33 d34 base hN) (fun _ _ _ _ _ _ _ => rfl)
