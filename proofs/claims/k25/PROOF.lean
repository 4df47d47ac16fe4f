import PyProof.Rows.All
import Wide.All
import OpenK.AllK
import Wide.FinOn
import HandS.ForMost
import HandS.IsInst
import HandS.TupAny
import HandS.Flow
import HandS.Evl
import HandS.TupMul
import HandS.SortKw
import HandS.WideBits
import HandS.Gcd
import HandS.Rev
import HandS.Style
import KE.DataMinMax
import HandS.Wide
import PyProof.NoPylong
import HandS.WideMore
import KE.GoesMore
import PyProof.Draws
import HandS.RevRange
import HandS.List
import HandS.Zip
import PySem.Challenge.RW_twoletters_k25_whole_resultants_by_own_d
set_option Elab.async false
set_option linter.all false
set_option maxRecDepth 100000
set_option maxHeartbeats 4000000
/-! a def's promise where no container is being written out (for repr) -/
namespace Tw
open PySem PySem.Spec PyProof.Rows L2

/-- nothing is being written out around here -/
abbrev Qt (A : Around) : Prop := A.guards = some []

structure FnG (P : Program) (w : World) (K : PySem.W.Frag) (mg : Str → Option Value) (base : Heap) (k : Nat) (f : Addr)
    (fd : FuncData) (ps : List Str) (sp : Sp) : Prop where
  many : ∀ vs H Q E, sp vs H Q E → vs.length = ps.length
  goes : ∀ (A : Around) (out : List Env) (s : Shared) (H : Hp) (g : Args) (us : List Value) (vs : List V) (Q : VK) (E : XK),
    Qt A → Room k A → Env0 P w K mg base A out s H → BindsTo s fd g (ps.zip us) → Vals vs us → sp vs H Q E →
    codeAny (model P w) A (.call (.ref f) g) (CR CX0 out P w H s Q E) s

section
variable {P : Program} {w : World} {K : PySem.W.Frag} {mg : Str → Option Value} {base : Heap} {k j : Nat} {f : Addr}
  {fd : FuncData} {ps : List Str} {sp : Sp}
theorem FnG.of (F : FnOk P w K mg base CX0 k f fd ps sp) : FnG P w K mg base k f fd ps sp :=
  ⟨F.len, fun A out s H g us vs Q E _ hr => F.run A out s H g us vs Q E hr⟩
theorem FnG.up (F : FnG P w K mg base j f fd ps sp) (h : j ≤ k) : FnG P w K mg base k f fd ps sp :=
  ⟨F.many, fun A out s H g us vs Q E hq hr => F.goes A out s H g us vs Q E hq (hr.mono h)⟩
theorem FnG.imp {sp' : Sp} (F : FnG P w K mg base k f fd ps sp) (h : ∀ vs H Q E, sp' vs H Q E → sp vs H Q E) :
    FnG P w K mg base k f fd ps sp' :=
  ⟨fun vs H Q E q => F.many vs H Q E (h _ _ _ _ q),
   fun A out s H g us vs Q E hq hr he hb hv hs => F.goes A out s H g us vs Q E hq hr he hb hv (h _ _ _ _ hs)⟩

/-- a def by its body, the place where it runs being quiet -/
theorem Fun.okG {x qual : Str} {st : Stmt} {N : List Str} (F : Fun K x qual st f fd) (S : FnScope N ps (defScope st))
    (many : ∀ vs H Q E, sp vs H Q E → vs.length = ps.length)
    (hbody : ∀ (cdv : Value) (A : Around) (out : List Env) (s : Shared) (H : Hp) (vs : List V) (Q : VK) (E : XK),
      Qt (A.deeper (envOfC qual (defScope st) s.heap.objs.size f cdv)) →
      Room k (A.deeper (envOfC qual (defScope st) s.heap.objs.size f cdv)) → sp vs H Q E →
      ∃ t, PSs (cxOf CX0 P w K mg base N qual (defScope st) f cdv A out s H E).nox (defBody st) t ∧
        t { nx := fun _ H' => Q .non H', rt := Q } (start N vs) H) : FnG P w K mg base (k + 1) f fd ps sp := by
  obtain ⟨oc, od, kV, doc, pm, an, cdv, ct, osl, rfl, lk, hcd⟩ := F.ex
  refine ⟨many, fun A out s H g us vs Q E hq hr e0 hb r hsp => ?_⟩
  have hlen : vs.length = ps.length := many _ _ _ _ hsp
  have inS : ∀ b o, base.get? b = some o → s.heap.get? b = some o := fun b o e => (e0.bs b o e).1
  have kx : K.In s.heap := e0.mod.kin.keeps inS
  have nolim : s.heap.NoLimit := e0.mod.nolimit.keeps inS
  have kinds : ∀ y ∈ ps.zip us, (defScope st).names.lookup y.1 = some .local ∨
      ((defScope st).names.lookup y.1 = some .cell ∧
        ((cellsFrom (s.heap.objs.size + 1) (defScope st).names []).lookup y.1).isSome = true) := by
    rintro ⟨n, v⟩ hy
    cases S.par n (List.of_mem_zip hy).1 with
    | inl q => exact Or.inl q
    | inr q => exact Or.inr ⟨q, PySem.W.cellsFrom_some _ _ _ (Or.inl q)⟩
  have rec1 := PySem.W.codeRec_of kx hcd
  refine codeAny_call_function hr.depth (kx _ _ lk) rfl S.co S.gen rfl rec1 (hb _ _ _ _ ?_)
  refine wpAny_newFunctionEnv_cells S.kind kinds fun env he s1 x => ?_
  subst he
  refine ⟨nolim.keeps x.toInCall.keep, codeAny_func ?_⟩
  have hq' : Qt (A.deeper (envOfC qual (defScope st) s.heap.objs.size f cdv)) := hq
  obtain ⟨t, ht, hw⟩ := hbody cdv A out s H vs Q E hq' (hr.deeper _) hsp
  have I := inv_start (CX := CX0) (cd := cdv) (E := E) (f := f) (qual := qual) S hr.hd e0 hlen r x
  refine wpAny_mono (ht.nox.run [] s1 (start N vs) H _ I hw) (fun fl s' hs => ?_) fun e s' hs => hs
  cases fl with
  | ret u => obtain ⟨v, σ', H', J, rv, q⟩ := hs; exact ⟨v, H', J.os, J.bare, J.base, J.hok, rv, q⟩
  | next => obtain ⟨σ', H', J, q⟩ := hs; exact ⟨V.non, H', J.os, J.bare, J.base, J.hok, rfl, q⟩
  | brk => obtain ⟨_, _, _, q⟩ := hs; exact q.elim
  | cont => obtain ⟨_, _, _, q⟩ := hs; exact q.elim
end

section
variable {X : Cx} {k : Nat} {f : Addr} {fd : FuncData} {ps : List Str} {sp : Sp} {x : Str} {p pos : Pos} {e : Expr}
  {es : List Expr} {t : TA}
/-- f(e, ..), f a def that wants quiet -/
theorem pe_callG (F : FnG X.prog X.w X.K X.mg X.base k f fd ps sp) (hq : Qt X.A) (hr : Room k X.A) (hg : Gl X x)
    (hm : X.mg x = some (.ref f)) (hk : PySem.W.keepIn X.K (.ref f) = true) (hb : Binds X.K fd ps [])
    (ha : PA X (e :: es) t) (hdb : (x == ("__debug__" : Str)) = false := by decide)
    (he : starEach (e :: es) X.env = (false, eval e X.env) :: starEach es X.env := by rfl)
    (hpl : (backTo pos (starEach es X.env)).any (·.1) = false := by rfl) :
    PE X (.Call (.Name x p) (e :: es) [] pos) (tCall sp [] E0 t) := by
  refine ⟨fun pins s σ H Q I h => wpAny_Call_Name_kw (ld_glob I hg hm ?_ hdb)⟩
  refine PySem.W.callWith_K (h₀ := X.base) I.ok.mod.kin hk ?_ he hpl
  refine thn (ha.run pos pins s σ H _ I h) ?_
  rintro us s1 ⟨vs, H1, I1, r, q⟩
  refine ⟨I1.kIn, wpAny_call ?_⟩
  have q' : sp vs H1 Q E0 := by simpa using q
  have hl : us.length = ps.length := by rw [← Vals.length r]; exact F.many _ _ _ _ q'
  have b := hb s1 us I1.kIn (by simpa using hl)
  rw [List.append_nil] at b
  refine codeAny_mono (F.goes X.A X.stack s1 H1 ⟨us, []⟩ us vs Q E0 hq hr I1.env0 b r q') fun r s' hh => ?_
  cases r with
  | error z => exact False.elim hh
  | ok fl =>
    cases fl with
    | ret u => exact I1.after hh
    | next => exact False.elim hh
    | brk => exact False.elim hh
    | cont => exact False.elim hh
end
end Tw

set_option Elab.async false
set_option linter.all false
set_option maxRecDepth 100000
set_option maxHeartbeats 4000000
/-! data: what a value is, over the heap; the well at a -/
namespace Tw
open PySem PySem.Spec PyProof.Rows L2

/-- all that was known is known, but for what stands at a -/
def Kp (a : Addr) (H H' : Hp) : Prop := ∀ b o, b ≠ a → H b = some o → H' b = some o
/-- the well: a list of three ints -/
def We (a : Addr) (H : Hp) : Prop := ∃ x y z : Int, H a = some (.lst [.int x, .int y, .int z])
theorem Kp.refl (a : Addr) (H : Hp) : Kp a H H := fun _ _ _ h => h
theorem Kp.trans {a : Addr} {H H1 H2 : Hp} (x : Kp a H H1) (y : Kp a H1 H2) : Kp a H H2 := fun b o n h => y b o n (x b o n h)
theorem Kp.of {a : Addr} {H H' : Hp} (x : Same H H') : Kp a H H' := fun b o _ h => x b o h
theorem We.to {a : Addr} {H H' : Hp} (x : Same H H') (w : We a H) : We a H' := by
  obtain ⟨i, j, k, h⟩ := w
  exact ⟨i, j, k, x _ _ h⟩
theorem We.ne {a p : Addr} {H : Hp} (w : We a H) (h : H p = none) : p ≠ a := by
  obtain ⟨i, j, k, e⟩ := w
  exact fun z => by rw [z, e] at h; cases h
theorem We.some {a : Addr} {H : Hp} (w : We a H) : H a ≠ none := by
  obtain ⟨i, j, k, e⟩ := w
  rw [e]
  exact fun z => by cases z
theorem same_new {H : Hp} {p : Addr} {o : HO} (h : H p = none) : Same H (upd H p o) := fun b u e => by
  rw [upd_ne (ne_of_none e h)]; exact e
theorem kp_new {a : Addr} {H : Hp} {p : Addr} {o : HO} (h : H p = none) : Kp a H (upd H p o) := Kp.of (same_new h)
theorem we_new {a : Addr} {H : Hp} {p : Addr} {o : HO} (w : We a H) (h : H p = none) : We a (upd H p o) := w.to (same_new h)
theorem sz {n : Nat} (h : n ≤ 100000) : n ≤ sizeLine := Nat.le_trans h (by decide)

mutual
/-- the value is the datum; nothing of it is the well -/
inductive Da (a : Addr) (H : Hp) : V → PyData → Prop
  | non : Da a H .non .none
  | bl (b : Bool) : Da a H (.bl b) (.bool b)
  | int (i : Int) : Da a H (.int i) (.int i)
  | str (x : Str) : Da a H (.str x) (.str x)
  | lst {p : Addr} {xs : List V} {ds : List PyData} : p ≠ a → H p = some (.lst xs) → DaAll a H xs ds → Da a H (.ref p) (.list ds)
  | tup {p : Addr} {xs : List V} {ds : List PyData} : p ≠ a → H p = some (.tup xs) → DaAll a H xs ds → Da a H (.ref p) (.tuple ds)
  | dct {p : Addr} : p ≠ a → H p = some (.dK []) → Da a H (.ref p) (.dict [])
inductive DaAll (a : Addr) (H : Hp) : List V → List PyData → Prop
  | nil : DaAll a H [] []
  | cons {v : V} {vs : List V} {d : PyData} {ds : List PyData} : Da a H v d → DaAll a H vs ds → DaAll a H (v :: vs) (d :: ds)
end
section
variable {a : Addr} {H H' : Hp}
mutual
theorem Da.kp (k : Kp a H H') : ∀ {v : V} {d : PyData}, Da a H v d → Da a H' v d
  | _, _, .non => .non
  | _, _, .bl b => .bl b
  | _, _, .int i => .int i
  | _, _, .str x => .str x
  | _, _, .lst n h t => .lst n (k _ _ n h) (DaAll.kp k t)
  | _, _, .tup n h t => .tup n (k _ _ n h) (DaAll.kp k t)
  | _, _, .dct n h => .dct n (k _ _ n h)
theorem DaAll.kp (k : Kp a H H') : ∀ {vs : List V} {ds : List PyData}, DaAll a H vs ds → DaAll a H' vs ds
  | _, _, .nil => .nil
  | _, _, .cons h t => .cons (Da.kp k h) (DaAll.kp k t)
end
theorem Da.same (s : Same H H') {v : V} {d : PyData} (h : Da a H v d) : Da a H' v d := h.kp (Kp.of s)
theorem DaAll.same (s : Same H H') {v : List V} {d : List PyData} (h : DaAll a H v d) : DaAll a H' v d := h.kp (Kp.of s)
theorem DaAll.len : ∀ {vs : List V} {ds : List PyData}, DaAll a H vs ds → vs.length = ds.length
  | _, _, .nil => rfl
  | _, _, .cons _ t => congrArg Nat.succ t.len
theorem DaAll.get : ∀ {vs : List V} {ds : List PyData} {i : Nat} {v : V}, DaAll a H vs ds → vs[i]? = some v → ∃ d, ds[i]? = some d ∧ Da a H v d
  | _, _, _, _, .nil, h => by simp at h
  | _, _, 0, _, .cons h _, e => by simp at e; subst e; exact ⟨_, rfl, h⟩
  | _, _, i + 1, _, .cons _ t, e => by
    obtain ⟨d, h1, h2⟩ := t.get (i := i) (by simpa using e)
    exact ⟨d, by simpa using h1, h2⟩
theorem DaAll.append : ∀ {vs ws : List V} {ds es : List PyData}, DaAll a H vs ds → DaAll a H ws es → DaAll a H (vs ++ ws) (ds ++ es)
  | _, _, _, _, .nil, t => t
  | _, _, _, _, .cons h t, u => .cons h (t.append u)
theorem DaAll.drop : ∀ {vs : List V} {ds : List PyData} (n : Nat), DaAll a H vs ds → DaAll a H (vs.drop n) (ds.drop n)
  | _, _, 0, h => h
  | _, _, _ + 1, .nil => .nil
  | _, _, n + 1, .cons _ t => t.drop n
theorem DaAll.take : ∀ {vs : List V} {ds : List PyData} (n : Nat), DaAll a H vs ds → DaAll a H (vs.take n) (ds.take n)
  | _, _, 0, _ => .nil
  | _, _, _ + 1, .nil => .nil
  | _, _, n + 1, .cons h t => .cons h (t.take n)
theorem DaAll.rev : ∀ {vs : List V} {ds : List PyData}, DaAll a H vs ds → DaAll a H vs.reverse ds.reverse
  | _, _, .nil => .nil
  | _, _, .cons h t => by
    rw [List.reverse_cons, List.reverse_cons]
    exact t.rev.append (.cons h .nil)
/-- a slice of the values, of the data -/
def cutD (ds : List PyData) (lo hi : Option Int) : List PyData := (ds.drop (HT.sIx ds.length 0 lo)).take (HT.sIx ds.length ds.length hi - HT.sIx ds.length 0 lo)
theorem DaAll.cut {vs : List V} {ds : List PyData} (lo hi : Option Int) (h : DaAll a H vs ds) : DaAll a H (cutV vs lo hi) (cutD ds lo hi) := by
  unfold cutV cutD
  rw [h.len]
  exact (h.drop _).take _

mutual
theorem Da.dp {K : PySem.W.Frag} : ∀ {v : V} {d : PyData}, Da a H v d → d.canLay0 = true → Dp K H v d
  | _, _, .non, _ => .non
  | _, _, .bl b, _ => .bl b
  | _, _, .int i, _ => .int i
  | _, _, .str x, _ => .str x
  | _, _, .lst n h t, c => .lst (SqL.of h) (DaAll.dp t (by simpa [PyData.canLay0] using c))
  | _, _, .tup n h t, c => .tup (SqT.of h) (DaAll.dp t (by simpa [PyData.canLay0] using c))
  | _, _, .dct n h, c => by simp [PyData.canLay0] at c
theorem DaAll.dp {K : PySem.W.Frag} : ∀ {vs : List V} {ds : List PyData}, DaAll a H vs ds → PyData.canLayAll0 ds = true → DpAll K H vs ds
  | _, _, .nil, _ => .nil
  | _, _, .cons (d := d) (ds := ds) h t, c => by
    have c' : d.canLay0 = true ∧ PyData.canLayAll0 ds = true := by simpa [PyData.canLayAll0] using c
    exact .cons (Da.dp h c'.1) (DaAll.dp t c'.2)
end
end

/-! ### written data -/
mutual
def litOf : Expr → Option PyData
  | .Constant c _ _ => match c with
    | .none => some .none
    | .bool b => some (.bool b)
    | .int i => some (.int i)
    | .str x => some (.str x)
    | _ => none
  | .UnaryOp .USub (.Constant (.int i) _ _) _ => some (.int (-i))
  | .BinOp (.Constant (.int i) _ _) .Pow (.Constant (.int j) _ _) _ => if 0 ≤ j ∧ j ≤ 1000 ∧ i.natAbs < 1000 then some (.int (i ^ j.toNat)) else none
  | .Tuple es _ _ => match litsOf es with
    | some ds => if ds.length ≤ 1000 then some (.tuple ds) else none
    | none => none
  | .List es _ => match litsOf es with
    | some ds => if ds.length ≤ 1000 then some (.list ds) else none
    | none => none
  | .Dict [] [] _ => some (.dict [])
  | _ => none
def litsOf : List Expr → Option (List PyData)
  | [] => some []
  | e :: es => match litOf e, litsOf es with
    | some d, some ds => some (d :: ds)
    | _, _ => none
end
theorem _root_.L2.PE.weak {X : Cx} {e : Expr} {t t' : TE} (h : PE X e t) (k : ∀ σ H Q, t' σ H Q → t σ H Q) : PE X e t' := ⟨fun p s σ H Q I q => h.run p s σ H Q I (k σ H Q q)⟩
theorem _root_.L2.PA.weak {X : Cx} {e : List Expr} {t t' : TA} (h : PA X e t) (k : ∀ σ H Q, t' σ H Q → t σ H Q) : PA X e t' := ⟨fun o p s σ H Q I q => h.run o p s σ H Q I (k σ H Q q)⟩
/-- a new datum; a is any known place -/
def tLit (d : PyData) : TE := fun _ H Q => ∃ a, H a ≠ none ∧ ∀ v H', Same H H' → Da a H' v d → Q v H'
def tLits (ds : List PyData) : TA := fun _ H Q => ∃ a, H a ≠ none ∧ ∀ vs H', Same H H' → DaAll a H' vs ds → Q vs H'
theorem same_some {H H' : Hp} {a : Addr} (s : Same H H') (h : H a ≠ none) : H' a ≠ none := by
  cases e : H a with
  | none => exact absurd e h
  | some o => rw [s a o e]; exact fun z => by cases z
theorem new_ne {H : Hp} {a p : Addr} (h : H a ≠ none) (n : H p = none) : p ≠ a := fun z => h (by rw [← z]; exact n)
theorem star_lit {e : Expr} {es : List Expr} {env : Env} {d : PyData} (h : litOf e = some d) : starEach (e :: es) env = (false, eval e env) :: starEach es env := by
  cases e <;> first | rfl | (simp [litOf] at h)
section
variable {X : Cx}
mutual
theorem pe_lit : ∀ (e : Expr) {d : PyData}, litOf e = some d → PE X e (tLit d)
  | .Constant .none _ _, _, h => by
    have e := Option.some.inj h; subst e
    exact pe_non.weak fun σ H Q ⟨a, _, q⟩ => q _ _ (Same.refl H) .non
  | .Constant (.bool b) _ _, _, h => by
    have e := Option.some.inj h; subst e
    exact pe_bl.weak fun σ H Q ⟨a, _, q⟩ => q _ _ (Same.refl H) (.bl b)
  | .Constant (.int i) _ _, _, h => by
    have e := Option.some.inj h; subst e
    exact pe_int.weak fun σ H Q ⟨a, _, q⟩ => q _ _ (Same.refl H) (.int i)
  | .Constant (.str x) _ _, _, h => by
    have e := Option.some.inj h; subst e
    exact pe_str.weak fun σ H Q ⟨a, _, q⟩ => q _ _ (Same.refl H) (.str x)
  | .UnaryOp .USub (.Constant (.int i) _ _) _, _, h => by
    have e := Option.some.inj h; subst e
    exact (pe_un un_neg pe_int).weak fun σ H Q ⟨a, _, q⟩ => ⟨i, rfl, q _ _ (Same.refl H) (.int (-i))⟩
  | .BinOp (.Constant (.int i) _ _) .Pow (.Constant (.int j) _ _) _, d, h => by
    simp only [litOf] at h
    split at h
    · rename_i c
      have e := Option.some.inj h; subst e
      refine (pe_op op_pow pe_int pe_int).weak fun σ H Q ⟨a, _, q⟩ => ⟨i, j, rfl, rfl, ⟨c.1, by have := c.2.1; omega, by have := c.2.2; omega⟩, q _ _ (Same.refl H) (.int _)⟩
    · cases h
  | .Tuple es _ _, d, h => by
    simp only [litOf] at h
    split at h
    · rename_i ds hd
      split at h
      · rename_i c
        have e := Option.some.inj h; subst e
        refine (pe_tup (pa_lits es hd)).weak fun σ H Q ⟨a, n, q⟩ => ⟨a, n, fun vs H1 s1 d1 => ⟨sz (by rw [d1.len]; omega), fun p hp => ?_⟩⟩
        have s2 := same_new (o := .tup vs) hp
        exact q _ _ (s1.trans s2) (.tup (new_ne (same_some s1 n) hp) upd_same (d1.same s2))
      · cases h
    · cases h
  | .List es _, d, h => by
    simp only [litOf] at h
    split at h
    · rename_i ds hd
      split at h
      · rename_i c
        have e := Option.some.inj h; subst e
        refine (pe_lst (pa_lits es hd)).weak fun σ H Q ⟨a, n, q⟩ => ⟨a, n, fun vs H1 s1 d1 => ⟨sz (by rw [d1.len]; omega), fun p hp => ?_⟩⟩
        have s2 := same_new (o := .lst vs) hp
        exact q _ _ (s1.trans s2) (.lst (new_ne (same_some s1 n) hp) upd_same (d1.same s2))
      · cases h
    · cases h
  | .Dict [] [] _, d, h => by
    have e := Option.some.inj h; subst e
    refine pe_dnewK.weak fun σ H Q ⟨a, n, q⟩ => fun p hp => ?_
    exact q _ _ (same_new hp) (.dct (new_ne n hp) upd_same)
theorem pa_lits : ∀ (es : List Expr) {ds : List PyData}, litsOf es = some ds → PA X es (tLits ds)
  | [], _, h => by
    have e := Option.some.inj h; subst e
    exact pa_nil.weak fun σ H Q ⟨a, _, q⟩ => q _ _ (Same.refl H) .nil
  | e :: es, ds, h => by
    simp only [litsOf] at h
    split at h
    · rename_i d ds' hd hds
      have z := Option.some.inj h; subst z
      refine (pa_cons (pe_lit e hd) (pa_lits es hds) (star_lit hd)).weak fun σ H Q ⟨a, n, q⟩ => ⟨a, n, fun v H1 s1 d1 => ⟨a, same_some s1 n, fun vs H2 s2 d2 => ?_⟩⟩
      exact q _ _ (s1.trans s2) (.cons (d1.same s2) d2)
    · cases h
end
end
end Tw

set_option Elab.async false
set_option linter.all false
set_option maxRecDepth 100000
set_option maxHeartbeats 4000000
/-! rules: texts of data, a tuple beside the empty one, a tuple turned round, kinds of data -/
namespace Tw
open PySem PySem.Spec PyProof.Rows L2
section
variable {X : Cx}

/-- repr of a list, a tuple -/
def rShow (K : PySem.W.Frag) : List V → Hp → VK → Prop := fun xs H Q =>
  ∃ p d, xs = [.ref p] ∧ Dp K H (.ref p) d ∧ SeqAt.shaped d = true ∧ d.showable = true ∧ d.shown.length ≤ sizeLine ∧ Q (.str d.shown) H
theorem noDict_of {d : PyData} (h : SeqAt.shaped d = true) : d.hasDict = false := by
  have c := SeqAt.canLay_of_shaped h
  exact PyData.hasDict_of_canLay d c
theorem call_show (hq : Qt X.A) (hu : X.A.units + 70 < cLine) : CallR X (.builtin "repr") (rShow X.K) := by
  intro pins s σ H xs us Q I r h
  obtain ⟨p, d, rfl, hd, hs, hw, hz, q⟩ := h
  obtain ⟨u, rfl, rx⟩ := vals1 r
  obtain ⟨as, rd⟩ := Dp.reads I d _ u hd rx
  cases rx
  have dp := SeqAt.depth_of_shaped hs
  refine repr_of_reads' rd hw (fun z => ?_) hq (by omega) (fun _ _ e => e) (fun h' t k keep => ?_) hz
  · rw [noDict_of hs] at z; cases z
  · exact ⟨.str d.shown, H, I.kept keep, ⟨_, rfl⟩, q⟩

/-- a tuple beside an empty one -/
def rT0 (ne : Bool) (K : PySem.W.Frag) : R2 := fun x y H Q =>
  ∃ a b xs ys, x = .ref a ∧ y = .ref b ∧ SqT K H a xs ∧ SqT K H b ys ∧ ys = [] ∧ Q (.bl (if ne then !xs.isEmpty else xs.isEmpty)) H
theorem t0_val {xs : List V} {its its2 : List Value} (r1 : Vals xs its) (r2 : Vals [] its2) :
    ((List.range (min its.toArray.size its2.toArray.size)).all (fun _ => true) && its.toArray.size == its2.toArray.size) = xs.isEmpty := by
  cases r2
  cases r1 with
  | nil => rfl
  | cons _ _ => simp
theorem op_eqT0 (hu : X.A.units + 64 < cLine) : OpR X (compareOp .Eq) (rT0 false X.K) := by
  intro pins s σ H x y v u Q I rx ry h
  obtain ⟨a, b, xs, ys, rfl, rfl, ha, hb, rfl, q⟩ := h
  cases rx
  cases ry
  obtain ⟨its, r1, p1, _⟩ := I.tuple ha
  obtain ⟨its2, r2, p2, _⟩ := I.tuple hb
  refine SeqAt.RcAt.tuples (e := fun _ => true) p1 p2 (by omega) (fun j h1 h2 => ?_) _ _ _ _ ⟨.bl xs.isEmpty, H, I, ?_, q⟩
  · cases r2
    exact absurd h2 (by simp)
  · show Value.bool _ = Value.bool _
    rw [t0_val r1 r2]
theorem op_neT0 (hu : X.A.units + 64 < cLine) : OpR X (compareOp .NotEq) (rT0 true X.K) := by
  intro pins s σ H x y v u Q I rx ry h
  obtain ⟨a, b, xs, ys, rfl, rfl, ha, hb, rfl, q⟩ := h
  cases rx
  cases ry
  obtain ⟨its, r1, p1, _⟩ := I.tuple ha
  obtain ⟨its2, r2, p2, _⟩ := I.tuple hb
  refine SeqAt.RcNeAt.tuples (e := fun _ => true) p1 p2 (by omega) (fun j h1 h2 => ?_) _ _ _ _ ⟨.bl (!xs.isEmpty), H, I, ?_, q⟩
  · cases r2
    exact absurd h2 (by simp)
  · show Value.bool _ = Value.bool _
    rw [t0_val r1 r2]

/-! ### t[::-1] -/
theorem applied_rev {prog : Program} {w : World} {A : Around} {E : Value → Shared → Prop} {s : Shared} {sl : Addr} {vl vu vs : Value} {n : Nat} {Q : Int × Int × Nat → Shared → Prop}
    (hs : s.heap.IsSliceOf sl vl vu vs) (pl : IsPart vl none) (pu : IsPart vu none) (pt : IsPart vs (some (-1))) (h : Q ((n : Int) - 1, -1, n) s) :
    wpAny (model prog w) A (Builtin.Slice.sliceApplied (.ref sl) (pure (n : Int))) Q E s := by
  obtain ⟨ob, e1, e2, e3⟩ := id hs
  unfold Builtin.Slice.sliceApplied Builtin.Slice.sliceFields
  refine wpAny_bind (wpAny_bind (wpAny_field e1 e3 (x := vl) rfl ?_))
  refine wpAny_bind (wpAny_field e1 e3 (x := vu) rfl ?_)
  refine wpAny_bind (wpAny_field e1 e3 (x := vs) rfl (wpAny_pure ?_))
  refine wpAny_bind (HT.slicePart_ pt ?_)
  show wpAny _ _ (if ((-1 : Int) == 0) = true then _ else _) _ _ s
  rw [if_neg (by decide)]
  refine wpAny_bind (HT.slicePart_ pl ?_)
  refine wpAny_bind (HT.slicePart_ pu (wpAny_bind (wpAny_pure (wpAny_pure ?_))))
  have ep : Builtin.Slice.slicePlaces ((n : Int) - 1) (-1) (-1) = n := by
    unfold Builtin.Slice.slicePlaces
    have c1 : ¬ ((-1 : Int) > 0) := by decide
    simp only [c1, if_false]
    by_cases c : (n : Int) - 1 > -1
    · simp only [c, if_true]
      have : ((n : Int) - 1 - -1 - 1) / (- -1) = (n : Int) - 1 := by
        rw [show (- -1 : Int) = 1 by decide, Int.ediv_one]; omega
      omega
    · simp only [c, if_false]
      omega
  show Q (_, (-1 : Int), Builtin.Slice.slicePlaces ((n : Int) - 1) (-1) (-1)) s
  rw [ep]
  exact h
theorem fm_congr {α β : Type} {f g : α → Option β} : ∀ (l : List α), (∀ k ∈ l, f k = g k) → l.filterMap f = l.filterMap g
  | [], _ => rfl
  | k :: l, h => by
    rw [List.filterMap_cons, List.filterMap_cons, h k (by simp), fm_congr l fun j hj => h j (by simp [hj])]
theorem pick_rev (xs : Array Value) : ((List.range xs.size).filterMap fun (k : Nat) => xs[(((xs.size : Int) - 1) + (k : Int) * (-1)).toNat]?).toArray = xs.toList.reverse.toArray := by
  congr 1
  have e : (List.range xs.size).filterMap (fun (k : Nat) => xs[(((xs.size : Int) - 1) + (k : Int) * (-1)).toNat]?) = ((List.range xs.size).map fun k => xs.size - 1 - k).filterMap (xs[·]?) := by
    rw [List.filterMap_map]
    refine fm_congr _ fun k hk => ?_
    have hlt := List.mem_range.mp hk
    have e : (((xs.size : Int) - 1) + (k : Int) * (-1)).toNat = xs.size - 1 - k := by omega
    show xs[(((xs.size : Int) - 1) + (k : Int) * (-1)).toNat]? = xs[xs.size - 1 - k]?
    rw [e]
  rw [e, PySem.W.krv_range, List.filterMap_reverse, PySem.W.krv_all]
theorem getItem_rev {prog : Program} {w : World} {A : Around} {E : Value → Shared → Prop} {s : Shared} {t sl : Addr} {items : Array Value} {vl vu vs : Value} {Q : Value → Shared → Prop}
    (ht : IsTup s.heap t items) (hs : s.heap.IsSliceOf sl vl vu vs) (pl : IsPart vl none) (pu : IsPart vu none) (pt : IsPart vs (some (-1))) (hz : items.size ≤ sizeLine)
    (h : Q (.ref s.heap.objs.size) { s with heap := s.heap.push { cls := .type "tuple", data := .seq items.toList.reverse.toArray } }) :
    wpAny (model prog w) A (getItem (.ref t) (.ref sl)) Q E s := by
  have ty : s.TypeIs (.ref sl) "slice" := by obtain ⟨ob, e1, e2, e3⟩ := id hs; exact ⟨ob, e1, e2⟩
  have ok : sizeOk (.seq items.toList.reverse.toArray) := by
    show items.toList.reverse.toArray.size ≤ sizeLine
    simpa using hz
  unfold getItem
  (try with_reducible refine wpAny_holding ?_); (first | refine wpAny_bind (wpAny_pure ?_) | skip)
  refine wpAny_bind (wpAny_sequenceKey ht.typeIs (by decide) ?_)
  have sg := PyProof.Rows.slot_tuple_getitem
  refine wpAny_bind (wpAny_callSpecial?_slot (name := Str.ofString "__getitem__") ht.typeIs sg ?_)
  refine wpAny_call_entry sg ht.typeIs entry_tuple_getitem ?_ (args_tuple_getitem _ _)
  refine (show wpAny _ _ (Builtin.Tuple.tupleItemsOf (.ref t) >>= _) _ _ s from ?_)
  refine wpAny_bind (tupleItemsOf_ ht (wpAny_bind (wpAny_typeOf ty ?_)))
  rw [if_pos (by decide)]
  refine wpAny_bind (applied_rev hs pl pu pt ?_)
  have no : ¬ (((items.size : Int) - 1 == 0 && (-1 : Int) == 1 && items.size == items.size) = true) := by simp
  show wpAny _ _ (if ((items.size : Int) - 1 == 0 && (-1 : Int) == 1 && items.size == items.size) = true then _ else _) _ _ s
  rw [if_neg no, pick_rev]
  first
    | exact wpAny_bind (wpAny_bind (m := Builtin.Tuple.tupleExact _) (wpAny_newObj_type (wpAny_pure ⟨_, rfl, wpAny_pure h⟩) ok))
    | exact wpAny_bind (m := Builtin.Tuple.tupleExact _) (wpAny_newObj_type (wpAny_pure ⟨_, rfl, wpAny_pure h⟩) ok)
    | exact wpAny_bind (m := Builtin.Tuple.tupleExact _) (wpAny_newObj_type (wpAny_bind (wpAny_pure (wpAny_pure ⟨_, rfl, wpAny_pure h⟩))) ok)
    | exact wpAny_bind (wpAny_bind (m := Builtin.Tuple.tupleExact _) (wpAny_newObj_type (wpAny_pure (wpAny_pure ⟨_, rfl, wpAny_pure h⟩)) ok))
def tRevT (K : PySem.W.Frag) (te : TE) : TE := fun σ H Q => te σ H fun x H1 => ∃ a xs, x = .ref a ∧ SqT K H1 a xs ∧ ∀ p, H1 p = none → Q (.ref p) (upd H1 p (.tup xs.reverse))
theorem pe_revT {e : Expr} {te : TE} {k : Nat} {p1 p2 p3 pos : Pos} (he : PE X e te) :
    PE X (.Subscript e (.Slice none none (some (.UnaryOp .USub (.Constant (.int 1) k p1) p2)) p3) pos) (tRevT X.K te) := by
  refine ⟨fun pins s σ H Q I h => Subscript_ (thn (he.run pins s σ H _ I h) ?_)⟩
  rintro v s1 ⟨x, H1, I1, r1, a, xs, ex, hx, q⟩
  subst ex
  cases r1
  have step : PO X (some (.UnaryOp .USub (.Constant (.int 1) k p1) p2)) (tPart (tUn (rU fun i => .int (-i)) (tC (.int 1)))) := po_some (pe_un un_neg pe_int)
  refine wpAny_Slice (thn (po_none.run pins s1 σ H1 (fun o G => o = none ∧ G = H1) I1 ⟨rfl, rfl⟩) ?_)
  rintro vl s2 ⟨l, G2, I2, pl, rfl, rfl⟩
  refine thn (po_none.run pins s2 σ G2 (fun o G => o = none ∧ G = G2) I2 ⟨rfl, rfl⟩) ?_
  rintro vu s3 ⟨l3, G3, I3, pu, rfl, rfl⟩
  refine thn (step.run pins s3 σ G3 (fun o G => o = some (-1) ∧ G = G3) I3 ⟨1, rfl, -1, rfl, rfl, rfl⟩) ?_
  rintro vs s4 ⟨l4, G4, I4, pt, rfl, rfl⟩
  have I5 := I4.kept (h' := s4.heap.push { cls := .type "slice", data := .fields #[vl, vu, vs] }) (t' := s4.toks) fun b ob z => Heap.get?_push_of_some _ z
  obtain ⟨its, r, ht, hz⟩ := I5.tuple hx
  have hl := r.length
  refine tail_any (ops := [.ref a, .ref s4.heap.objs.size]) ht.typeIs PyProof.Rows.slot_tuple_getitem.lookup ?_ (by with_unfolding_all rfl)
  refine getItem_rev ht (Heap.IsSliceOf.new _ vl vu vs) pl pu pt (by rw [List.size_toArray]; omega) ?_
  have J := I5.laid (t' := s4.toks) (o := .tup xs.reverse) (fun b ob z => Heap.get?_push_of_some _ z) (Nat.le_refl _)
    ⟨by rw [List.length_reverse]; exact hz, its.reverse, Vals.reverse r, IsTup.new _ _⟩
  exact ⟨.ref _, _, J, rfl, q _ (I5.hok.fresh (Nat.le_refl _))⟩
end

/-! ### kinds -/
def kindOf : PyData → String
  | .none => "NoneType"
  | .bool _ => "bool"
  | .int _ => "int"
  | .str _ => "str"
  | .list _ => "list"
  | .tuple _ => "tuple"
  | .dict _ => "dict"
theorem Da.ty {a : Addr} {H : Hp} {K : PySem.W.Frag} : ∀ {v : V} {d : PyData}, Da a H v d → TyX K H v (.type (kindOf d))
  | _, _, .non => .base .non
  | _, _, .bl b => .base (.bl b)
  | _, _, .int i => .base (.int i)
  | _, _, .str x => .base (.str x)
  | _, _, .lst _ h _ => .base (.lst h)
  | _, _, .tup _ h _ => .base (.tup h)
  | _, _, .dct _ h => .base (.dK h)
end Tw

set_option Elab.async false
set_option linter.all false
set_option maxRecDepth 100000
set_option maxHeartbeats 4000000
/-! the end of a law whose def wants quiet -/
namespace Tw
open PySem PySem.Spec PyProof.Rows L2

/-- a promise wide enough that says nothing of exceptions, over a heap in which the script alone may be known -/
theorem law_quiet {P : Program} {w : World} {K : PySem.W.Frag} {mg mb : Str → Option Value} {k : Nat} {fa a : Addr} {fd : FuncData}
    {x : Str} {sp : Sp} {s₁ : Shared} {vs : List Value} {ns : List Int} (KX : K.In s₁.heap) (hns : s₁.heap.Ns mainGlobals mg)
    (hb : s₁.heap.Ns builtinsNs mb) (hbb : ∀ x : Str, x ≠ "__name__" → mb x = bootBuiltins x) (hlim : s₁.heap.NoLimit)
    (hg : s₁.gens = #[]) (ha : s₁.heap.get? a = some { cls := .type "list", data := .seq vs.toArray }) (hi : IntsAre vs ns)
    (hl : ns.length ≤ sizeLine) (hr : Room k callerA)
    (F : ∀ base : Heap, K.In base → base.Ns mainGlobals mg → FnG P w K mg base k fa fd [x] sp)
    (hbind : ∀ (s : Shared) (u : Value), BindsTo s fd ⟨[u], []⟩ [(x, u)])
    (hsp : ∀ H : Hp, Only H → SqL K H a (ns.map V.int) → sp [.ref a] H (fun v _ => v = .bl true) E0) :
    codeAny (model P w) callerA (.call (.ref fa) ⟨[.ref a], []⟩)
      (fun r s' => r = .ok (.ret (.bool true)) ∧ OldK s₁.heap s'.heap ∧ s'.os = s₁.os ∧ AllBare s'.gens) s₁ := by
  have hv := vals_ints hi
  have hn := hi.length
  have main : ∀ H : Hp, Only H → SqL K H a (ns.map V.int) → HOk P w H s₁.heap → (∀ b u, H b = some u → b = a ∧ K.lookup a = none) →
      codeAny (model P w) callerA (.call (.ref fa) ⟨[.ref a], []⟩)
        (fun r s' => r = .ok (.ret (.bool true)) ∧ OldK s₁.heap s'.heap ∧ s'.os = s₁.os ∧ AllBare s'.gens) s₁ := by
    intro H hO hS hok hA
    have dictFree : ∀ {b : Addr} {o : Obj} {es : Array DictEntry} {ep : Nat},
        s₁.heap.get? b = some o → o.data = .dict es ep → H b = none := by
      intro b o es ep e d
      cases q : H b with
      | none => rfl
      | some u =>
        obtain ⟨e1, _⟩ := hA b u q
        rw [e1, ha] at e
        injection e with e
        rw [← e] at d
        exact absurd d (by intro z; cases z)
    have nsB : ∀ {b : Addr} {m : Str → Option Value}, s₁.heap.Ns b m → (hidT s₁.heap H).Ns b m := by
      rintro b m ⟨o, es, ep, e, d, r⟩
      exact ⟨o, es, ep, hidT_get e (dictFree e d), d, r⟩
    have kB : K.In (hidT s₁.heap H) := by
      intro b o e
      refine hidT_get (KX b o e) ?_
      cases q : H b with
      | none => rfl
      | some u =>
        obtain ⟨e1, e2⟩ := hA b u q
        rw [e1, e2] at e
        cases e
    have hM : Mod K mg (hidT s₁.heap H) := by
      obtain ⟨mc, l1, l2⟩ := hlim
      exact ⟨kB, nsB hns, ⟨mb, nsB hb, hbb⟩, ⟨mc, nsB l1, l2⟩⟩
    have noB : ∀ b : Addr, b ∈ frs ([] : List Env) → False := fun b z => by simp [frs] at z
    have e0 : Env0 P w K mg (hidT s₁.heap H) callerA [] s₁ H :=
      ⟨rfl, hM, fun b o e => of_hidT e, Nat.le_of_eq (hidT_size _ _), trivial, fun b z => (noB b z).elim, hok, .of_eq hg⟩
    have go := (F _ kB (nsB hns)).goes callerA [] s₁ H ⟨[.ref a], []⟩ [.ref a] [.ref a] (fun v _ => v = .bl true) E0 rfl hr e0
      (hbind s₁ (.ref a)) (.cons rfl .nil) (hsp H hO hS)
    refine codeAny_mono go fun r s' h => ?_
    cases r with
    | error e => exact False.elim h
    | ok fl =>
      cases fl with
      | next => exact False.elim h
      | brk => exact False.elim h
      | cont => exact False.elim h
      | ret u =>
        obtain ⟨v, H', os, bare, un, hok', rv, q⟩ := h
        subst q
        cases (show u = Value.bool true from rv)
        refine ⟨rfl, OldK.of_keep fun b o e => ?_, os, bare⟩
        cases q : H b with
        | none => exact un.keep b o e q (fun z => noB b z) (by simp)
        | some u =>
          cases hO b with
          | inl z => rw [q] at z; cases z
          | inr z =>
            obtain ⟨ob, xs, z⟩ := z
            have f1 := (hok b _ z).1
            have f2 := (hok' b _ (un.frzs b ob _ z)).1
            rw [e] at f1
            rw [f2, ← f1]
  cases hk : K.lookup a with
  | some o =>
    have e := KX a o hk
    rw [ha] at e
    injection e with e
    subst e
    refine main (fun _ => none) (fun _ => Or.inl rfl) (Or.inr ⟨_, vs.toArray, _, hk, rfl, rfl, rfl, ?_, by simpa using hv⟩) ?_ ?_
    · rw [List.size_toArray, hn]; exact hl
    · intro b u z; exact absurd z (by intro y; cases y)
    · intro b u z; exact absurd z (by intro y; cases y)
  | none =>
    let Ha : Hp := fun b => if b = a then some (.frz { cls := .type "list", data := .seq vs.toArray } (.lst (ns.map V.int))) else none
    have ya : ∀ b, b = a → Ha b = some (.frz { cls := .type "list", data := .seq vs.toArray } (.lst (ns.map V.int))) := fun b h => if_pos h
    have na : ∀ b, b ≠ a → Ha b = none := fun b h => if_neg h
    refine main Ha (fun b => ?_) (Or.inl (Or.inr ⟨_, ya a rfl⟩)) (fun b u z => ?_) (fun b u z => ?_)
    · by_cases h : b = a
      · exact Or.inr ⟨_, _, ya b h⟩
      · exact Or.inl (na b h)
    · by_cases h : b = a
      · rw [ya b h] at z
        injection z with z
        subst z h
        exact ⟨ha, by rw [List.length_map]; exact hl, vs, _, hv, ha⟩
      · rw [na b h] at z; cases z
    · by_cases h : b = a
      · exact ⟨h, hk⟩
      · rw [na b h] at z; cases z

theorem walk_quiet {l : PySem.W.OpenLaw} {n k : Nat} {q : Program} {loose : List Str} {XP : (Str → Option Value) → Heap → Prop}
    {YP : World → Heap → Prop} {d : DefRec} {K : Params → PySem.W.Frag} {sp : PySem.W.Frag → Sp} {x : Str} (hn : l.most = some n)
    (hn2 : n ≤ sizeLine) (hdf : d.params.defaults = []) (hr : Room k callerA)
    (hY : ∀ (w : World) (h : Heap), YP w h → (K w.params).In h)
    (F : ∀ (w : World) (mg : Str → Option Value) (fa : Addr) (h : Heap), (K w.params).In h → h.Ns mainGlobals mg →
      mg d.name = some (.ref fa) → ∃ fd : FuncData, (∀ (s : Shared) (u : Value), BindsTo s fd ⟨[u], []⟩ [(x, u)]) ∧
        ∀ base : Heap, (K w.params).In base → base.Ns mainGlobals mg → FnG l.prog w (K w.params) mg base k fa fd [x] (sp (K w.params)))
    (hsp : ∀ (K : PySem.W.Frag) (H : Hp) (a : Addr) (ns : List Int), ns.length ≤ n → Only H → SqL K H a (ns.map V.int) →
      sp K [.ref a] H (fun v _ => v = .bl true) E0) :
    PySem.W.WalkO q loose XP YP l.row.toRowW d [] (fun f vs => PySem.call f vs) := by
  refine Att.attach_call hn hdf ?_
  intro w s₀ s₁ mg mb fa o pm cd doc a vs ns G Y ho hd hcd hmg hobj hints hlen hg
  have kx := hY w _ Y
  obtain ⟨fd, hb, hF⟩ := F w mg fa _ kx G.T.g hmg
  exact law_quiet kx G.T.g G.T.b G.T.builtins G.T.nolimit hg hobj hints (Nat.le_trans hlen hn2) hr hF hb
    fun H hO hS => hsp _ H a ns hlen hO hS
end Tw

set_option Elab.async false
set_option linter.all false
set_option maxRecDepth 100000
set_option maxHeartbeats 4000000
/-! defs of the text, and calls of them by name -/
namespace Tw
open PySem PySem.Spec PyProof.Rows L2

/-- the def st stands at the name x -/
def Def (K : PySem.W.Frag) (mg : Str → Option Value) (x : Str) (st : Stmt) (ps : List Str) : Prop :=
  ∃ f fd, Fun K x x st f fd ∧ mg x = some (.ref f) ∧ Binds K fd ps []
/-- f is a def, fd -/
def FdAt (K : PySem.W.Frag) (f : Addr) (fd : FuncData) : Prop := ∃ oc od osl, K.lookup f = some ⟨oc, od, .func fd, osl⟩
theorem fdAt {K : PySem.W.Frag} {x q : Str} {st : Stmt} {f : Addr} {fd : FuncData} (F : Fun K x q st f fd) : FdAt K f fd := by
  obtain ⟨oc, od, _, _, _, _, _, _, osl, _, lk, _⟩ := F.ex
  exact ⟨oc, od, osl, lk⟩
/-- what stands at the name x keeps the promise -/
def Cal (P : Program) (w : World) (K : PySem.W.Frag) (mg : Str → Option Value) (base : Heap) (x : Str) (k : Nat) (ps : List Str) (sp : Sp) : Prop :=
  ∃ f fd, FnOk P w K mg base CX0 k f fd ps sp ∧ mg x = some (.ref f) ∧ PySem.W.keepIn K (.ref f) = true ∧ Binds K fd ps [] ∧ FdAt K f fd
def CalG (P : Program) (w : World) (K : PySem.W.Frag) (mg : Str → Option Value) (base : Heap) (x : Str) (k : Nat) (ps : List Str) (sp : Sp) : Prop :=
  ∃ f fd, FnG P w K mg base k f fd ps sp ∧ mg x = some (.ref f) ∧ PySem.W.keepIn K (.ref f) = true ∧ Binds K fd ps [] ∧ FdAt K f fd
section
variable {P : Program} {w : World} {K : PySem.W.Frag} {mg : Str → Option Value} {base : Heap} {x : Str} {st : Stmt} {ps N : List Str} {k : Nat} {sp : Sp}
theorem Def.ok (D : Def K mg x st ps) (S : FnScope N ps (defScope st)) (many : ∀ vs H Q E, sp vs H Q E → vs.length = ps.length)
    (hbody : ∀ (f : Addr) (cdv : Value) (A : Around) (out : List Env) (s : Shared) (H : Hp) (vs : List V) (Q : VK) (E : XK),
      Room k (A.deeper (envOfC x (defScope st) s.heap.objs.size f cdv)) → sp vs H Q E →
      ∃ t, PSs (cxOf CX0 P w K mg base N x (defScope st) f cdv A out s H E).nox (defBody st) t ∧
        t { nx := fun _ H' => Q .non H', rt := Q } (start N vs) H) : Cal P w K mg base x (k + 1) ps sp := by
  obtain ⟨f, fd, F, m, b⟩ := D
  exact ⟨f, fd, F.ok S many (fun cdv A out s H vs Q E hr hs => hbody f cdv A out s H vs Q E hr hs), m, F.kp, b, fdAt F⟩
theorem Def.okG (D : Def K mg x st ps) (S : FnScope N ps (defScope st)) (many : ∀ vs H Q E, sp vs H Q E → vs.length = ps.length)
    (hbody : ∀ (f : Addr) (cdv : Value) (A : Around) (out : List Env) (s : Shared) (H : Hp) (vs : List V) (Q : VK) (E : XK),
      Qt (A.deeper (envOfC x (defScope st) s.heap.objs.size f cdv)) →
      Room k (A.deeper (envOfC x (defScope st) s.heap.objs.size f cdv)) → sp vs H Q E →
      ∃ t, PSs (cxOf CX0 P w K mg base N x (defScope st) f cdv A out s H E).nox (defBody st) t ∧
        t { nx := fun _ H' => Q .non H', rt := Q } (start N vs) H) : CalG P w K mg base x (k + 1) ps sp := by
  obtain ⟨f, fd, F, m, b⟩ := D
  exact ⟨f, fd, Fun.okG F S many (fun cdv A out s H vs Q E hq hr hs => hbody f cdv A out s H vs Q E hq hr hs), m, F.kp, b, fdAt F⟩
theorem Cal.imp {sp' : Sp} (C : Cal P w K mg base x k ps sp) (h : ∀ vs H Q E, sp' vs H Q E → sp vs H Q E) : Cal P w K mg base x k ps sp' := by
  obtain ⟨f, fd, F, r⟩ := C
  exact ⟨f, fd, F.imp h, r⟩
theorem Cal.up {j : Nat} (C : Cal P w K mg base x j ps sp) (h : j ≤ k) : Cal P w K mg base x k ps sp := by
  obtain ⟨f, fd, F, r⟩ := C
  exact ⟨f, fd, F.mono h, r⟩
theorem def_mk {h : Heap} {f : Addr} {oc kV dc pm cd ct : Value} {od an : Option Addr} {sl : Array (Option Value)} (X : K.In h) (G : h.Ns mainGlobals mg)
    (a : PySem.W.nsIn K mainGlobals x = some (some (.ref f)))
    (l : K.lookup f = some ⟨oc, od, .func (PySem.W.fnOf x x (defArgs st) (defBody st) (defScope st) .none kV dc pm an cd ct), sl⟩)
    (c : PySem.W.codeIn K cd x = true) (kp : PySem.W.keepIn K (.ref f) = true)
    (hb : ∀ (kV doc pm : Value) (an : Option Addr) (cdv ct : Value) (us : List Value), us.length = ps.length →
      bindArgs (PySem.W.fnOf x x (defArgs st) (defBody st) (defScope st) .none kV doc pm an cdv ct) ⟨us, []⟩ = pure (ps.zip us)) : Def K mg x st ps := by
  have F := fun_mk (st := st) l c kp
  exact ⟨f, _, F, PySem.W.mg_of X G a, F.binds hb⟩
end
section
variable {X : Cx} {k j : Nat} {ps : List Str} {sp : Sp} {x : Str} {p pos : Pos} {e : Expr} {es : List Expr} {t : TA}
/-- f(e, ..) -/
theorem pe_cal (C : Cal X.prog X.w X.K X.mg X.base x j ps sp) (hr : Room k X.A) (hj : j ≤ k) (hg : Gl X x) (ha : PA X (e :: es) t) (hdb : (x == ("__debug__" : Str)) = false := by decide)
    (he : starEach (e :: es) X.env = (false, eval e X.env) :: starEach es X.env := by rfl) (hpl : (backTo pos (starEach es X.env)).any (·.1) = false := by rfl) :
    PE X (.Call (.Name x p) (e :: es) [] pos) (tCall sp [] E0 t) := by
  obtain ⟨f, fd, F, m, kp, b, _⟩ := C
  exact pe_call F (hr.mono hj) hg m kp b .nil pass0 ha hdb he hpl
theorem pe_calG (C : CalG X.prog X.w X.K X.mg X.base x j ps sp) (hq : Qt X.A) (hr : Room k X.A) (hj : j ≤ k) (hg : Gl X x) (ha : PA X (e :: es) t) (hdb : (x == ("__debug__" : Str)) = false := by decide)
    (he : starEach (e :: es) X.env = (false, eval e X.env) :: starEach es X.env := by rfl) (hpl : (backTo pos (starEach es X.env)).any (·.1) = false := by rfl) :
    PE X (.Call (.Name x p) (e :: es) [] pos) (tCall sp [] E0 t) := by
  obtain ⟨f, fd, F, m, kp, b, _⟩ := C
  exact pe_callG F hq (hr.mono hj) hg m kp b ha hdb he hpl

/-- f(k = e, ..), nothing by position: ks the names as they are written, g puts the values in the parameters' order -/
theorem pe_calK {st : Stmt} {ks : List Str} {kws : List Keyword} (g : List Value → List Value) (gV : List V → List V) (C : Cal X.prog X.w X.K X.mg X.base x j ps sp) (D : Def X.K X.mg x st ps) (hr : Room k X.A) (hj : j ≤ k) (hg : Gl X x)
    (hb : ∀ (kV doc pm : Value) (an : Option Addr) (cdv ct : Value) (us : List Value), us.length = ks.length →
      bindArgs (PySem.W.fnOf x x (defArgs st) (defBody st) (defScope st) .none kV doc pm an cdv ct) ⟨[], ks.zip us⟩ = pure (ps.zip (g us)))
    (hrel : ∀ {zs : List V} {us : List Value}, Vals zs us → us.length = ks.length → Vals (gV zs) (g us)) (ha : PK X kws t)
    (hn : ∀ zs H Q, t zs H Q → t zs H fun vs H' => vs.length = ks.length ∧ Q vs H')
    (hall : (backToKw pos (keywordEach kws X.env)).all (·.1.isSome) = true := by rfl) (hks : (backToKw pos (keywordEach kws X.env)).filterMap (·.1) = ks := by rfl)
    (hdb : (x == ("__debug__" : Str)) = false := by decide)
    (hpl : ((backTo pos (starEach [] X.env)).any (·.1) || (backToKw pos (keywordEach kws X.env)).any (·.1.isNone)) = false := by rfl) :
    PE X (.Call (.Name x p) [] kws pos) (fun σ H Q => t σ H fun zs H1 => sp (gV zs) H1 Q E0) := by
  obtain ⟨f, fd, F, m, kp, b, oc, od, osl, lk⟩ := C
  obtain ⟨f', fd', F', m', _⟩ := D
  have e1 : f' = f := by rw [m] at m'; injection m' with z; injection z with z; exact z.symm
  subst e1
  obtain ⟨oc', od', kV, doc, pm, an, cdv, ct, osl', e2, lk', _⟩ := F'.ex
  rw [lk] at lk'
  injection lk' with lk'
  injection lk' with _ _ e3 _
  injection e3 with e3
  subst e3
  refine ⟨fun pins s σ H Q I h => wpAny_Call_Name_kw (ld_glob I hg m ?_ hdb)⟩
  refine PySem.W.callWith_KW0 (h₀ := X.base) I.ok.mod.kin kp hall ?_ hpl
  refine thn (ha.run pos pins s σ H _ I (hn σ H _ h)) ?_
  rintro ws s2 ⟨zs, H2, I2, rz, hl, q2⟩
  rw [hks]
  refine ⟨I2.kIn, wpAny_call ?_⟩
  have hw : ws.length = ks.length := by rw [← Vals.length rz]; exact hl
  have bt : BindsTo s2 fd ⟨[], ks.zip ws⟩ (ps.zip (g ws)) := by
    rw [e2]
    exact .of_eq (hb kV doc pm an cdv ct ws hw)
  refine codeAny_mono (F.run X.A X.stack s2 H2 ⟨[], ks.zip ws⟩ (g ws) (gV zs) Q E0 (hr.mono hj) I2.env0 bt (hrel rz hw) q2) fun r s' hh => ?_
  cases r with
  | error z => exact False.elim hh
  | ok fl =>
    cases fl with
    | ret u => exact I2.after hh
    | next => exact False.elim hh
    | brk => exact False.elim hh
    | cont => exact False.elim hh
end

section
variable {P : Program} {w : World} {K : PySem.W.Frag} {mg : Str → Option Value} {st : Stmt} {x y : Str} {k : Nat} {sp : Sp} {fa : Addr}
theorem end_law (D : Def K mg x st [y]) (hfa : mg x = some (.ref fa)) (F : ∀ base : Heap, CalG P w K mg base x k [y] sp)
    (hb : ∀ (kV doc pm : Value) (an : Option Addr) (cdv ct u : Value), bindArgs (PySem.W.fnOf x x (defArgs st) (defBody st) (defScope st) .none kV doc pm an cdv ct) ⟨[u], []⟩ = pure [(y, u)]) :
    ∃ fd : FuncData, (∀ (s : Shared) (u : Value), BindsTo s fd ⟨[u], []⟩ [(y, u)]) ∧ ∀ base : Heap, K.In base → base.Ns mainGlobals mg → FnG P w K mg base k fa fd [y] sp := by
  obtain ⟨f, fd, F', m, _⟩ := D
  have e1 : f = fa := by rw [hfa] at m; injection m with z; injection z with z; exact z.symm
  subst e1
  obtain ⟨oc, od, kV, doc, pm, an, cdv, ct, osl, e2, lk, _⟩ := F'.ex
  refine ⟨fd, fun s u => by rw [e2]; exact .of_eq (hb kV doc pm an cdv ct u), fun base _ _ => ?_⟩
  obtain ⟨f2, fd2, G, m2, _, _, oc2, od2, osl2, lk2⟩ := F base
  have e3 : f2 = f := by rw [hfa] at m2; injection m2 with z; injection z with z; exact z.symm
  subst e3
  rw [lk] at lk2
  injection lk2 with lk2
  injection lk2 with _ _ e4 _
  injection e4 with e4
  rw [e4]
  exact G
end

theorem with_def {R : Prop} {K : PySem.W.Frag} {mg : Str → Option Value} {x : Str} {st : Stmt} {ps : List Str} {h : Heap} {f : Addr} {oc kV dc pm cd ct : Value} {od an : Option Addr} {sl : Array (Option Value)} (X : K.In h) (G : h.Ns mainGlobals mg)
    (a : PySem.W.nsIn K mainGlobals x = some (some (.ref f)))
    (l : K.lookup f = some ⟨oc, od, .func (PySem.W.fnOf x x (defArgs st) (defBody st) (defScope st) .none kV dc pm an cd ct), sl⟩)
    (c : PySem.W.codeIn K cd x = true) (kp : PySem.W.keepIn K (.ref f) = true)
    (hb : ∀ (kV doc pm : Value) (an : Option Addr) (cdv ct : Value) (us : List Value), us.length = ps.length →
      bindArgs (PySem.W.fnOf x x (defArgs st) (defBody st) (defScope st) .none kV doc pm an cdv ct) ⟨us, []⟩ = pure (ps.zip us))
    (go : Def K mg x st ps → R) : R := go (def_mk X G a l c kp hb)
theorem with_no {R : Prop} {K : PySem.W.Frag} {mg : Str → Option Value} {x : Str} {h : Heap} (X : K.In h) (G : h.Ns mainGlobals mg) (z : PySem.W.nsIn K mainGlobals x = some none) (go : mg x = none → R) : R := go (PySem.W.mg_none_of X G z)
end Tw

set_option Elab.async false
set_option linter.all false
set_option maxRecDepth 100000
set_option maxHeartbeats 4000000
/-! comprehensions over data, small facts -/
namespace Tw
open PySem PySem.Spec PyProof.Rows L2
theorem same_upd {H H' : Hp} {D : Addr} {o : HO} (s : Same H H') (n : H D = none) : Same H (upd H' D o) := fun b u e => by
  rw [upd_ne (ne_of_none e n)]; exact s b u e
theorem kp_upd {a : Addr} {H H' : Hp} {D : Addr} {o : HO} (s : Kp a H H') (n : H D = none) : Kp a H (upd H' D o) := fun b u ne e => by
  rw [upd_ne (ne_of_none e n)]; exact s b u ne e
theorem lt_line {n : Nat} (h : n < 100000) : n < sizeLine := Nat.lt_of_lt_of_le h (by decide)
theorem take_map {α β : Type} (f : α → β) {ds : List α} {i : Nat} {d : α} (h : ds[i]? = some d) : (ds.take i).map f ++ [f d] = (ds.take (i + 1)).map f := by
  rw [List.take_add_one, h, List.map_append]; rfl
section
variable {K : PySem.W.Frag} {te : TE} {i j : Nat} {elt : TE} {vs : List Nat} {σ : L2.St} {H : Hp} {Q : VK} {a p : Addr} {xs : List V} {ds : List PyData}
/-- [f(d) for d in t], t a tuple of data -/
theorem lc_mapT (f : PyData → V) (hv : σ[i]? = some (some (.ref p))) (ht : H p = some (.tup xs)) (hd : DaAll a H xs ds) (hn : xs.length < 100000)
    (hw : ∀ x, wipe ((wipe σ vs).set j (some x)) vs = wipe σ vs)
    (he : ∀ x d H1, d ∈ ds → Same H H1 → Da a H1 x d → ∀ R : VK, (∀ H2, Same H1 H2 → R (f d) H2) → elt ((wipe σ vs).set j (some x)) H1 R)
    (q : ∀ D H', Same H H' → H D = none → H' D = some (.lst (ds.map f)) → Q (.ref D) H') : tLc (iTup K (tVar i)) (gName j) tYes elt vs σ H Q := by
  refine ⟨.ref p, hv, p, rfl, ⟨xs, SqT.of ht⟩, fun D hD => ?_⟩
  refine lc_tup (xs := xs) (fun m H' => Same H H' ∧ H' D = some (.lst ((ds.take m).map f))) ⟨same_new hD, upd_same⟩ (fun m H' _ h => SqT.of (h.1 _ _ ht)) (fun m x H1 hx h => ?_) (fun H' h => ?_)
  · obtain ⟨h1, h2⟩ := h
    obtain ⟨d, e1, e2⟩ := hd.get hx
    have hm : m < xs.length := (List.getElem?_eq_some_iff.mp hx).1
    refine ⟨hw x, ?_⟩
    unfold tYes
    simp only [if_true]
    refine he x d H1 (List.mem_of_getElem? e1) h1 (e2.same h1) _ fun H2 s2 => ⟨(ds.take m).map f, s2 _ _ h2, ?_, same_upd (h1.trans s2) hD, ?_⟩
    · rw [List.length_map, List.length_take]; exact lt_line (by omega)
    · rw [upd_same, take_map f e1]
  · obtain ⟨h1, h2⟩ := h
    rw [hd.len, List.take_length] at h2
    exact q D H' h1 hD h2
theorem lc_mapL (f : PyData → V) (hv : σ[i]? = some (some (.ref p))) (ht : H p = some (.lst xs)) (hd : DaAll a H xs ds) (hn : xs.length < 100000)
    (hw : ∀ x, wipe ((wipe σ vs).set j (some x)) vs = wipe σ vs)
    (he : ∀ x d H1, d ∈ ds → Same H H1 → Da a H1 x d → ∀ R : VK, (∀ H2, Same H1 H2 → R (f d) H2) → elt ((wipe σ vs).set j (some x)) H1 R)
    (q : ∀ D H', Same H H' → H D = none → H' D = some (.lst (ds.map f)) → Q (.ref D) H') : tLc (iList K (tVar i)) (gName j) tYes elt vs σ H Q := by
  refine ⟨.ref p, hv, p, rfl, ⟨xs, SqL.of ht⟩, fun D hD => ?_⟩
  refine lc_list (xs := xs) (fun m H' => Same H H' ∧ H' D = some (.lst ((ds.take m).map f))) ⟨same_new hD, upd_same⟩ (fun m H' _ h => SqL.of (h.1 _ _ ht)) (fun m x H1 hx h => ?_) (fun H' h => ?_)
  · obtain ⟨h1, h2⟩ := h
    obtain ⟨d, e1, e2⟩ := hd.get hx
    have hm : m < xs.length := (List.getElem?_eq_some_iff.mp hx).1
    refine ⟨hw x, ?_⟩
    unfold tYes
    simp only [if_true]
    refine he x d H1 (List.mem_of_getElem? e1) h1 (e2.same h1) _ fun H2 s2 => ⟨(ds.take m).map f, s2 _ _ h2, ?_, same_upd (h1.trans s2) hD, ?_⟩
    · rw [List.length_map, List.length_take]; exact lt_line (by omega)
    · rw [upd_same, take_map f e1]
  · obtain ⟨h1, h2⟩ := h
    rw [hd.len, List.take_length] at h2
    exact q D H' h1 hD h2
end

/-! ### kinds, tests of kinds -/
def isIntD : PyData → Bool
  | .int _ => true
  | .bool _ => true
  | _ => false
def isBoolD : PyData → Bool
  | .bool _ => true
  | _ => false
def isTupD : PyData → Bool
  | .tuple _ => true
  | _ => false
theorem isi_int {K : PySem.W.Frag} (d : PyData) : PySem.W.kitOne K (.type (kindOf d)) (.type "int") = some (isIntD d) := by
  cases d with
  | none => exact kit_ty (show kitB "NoneType" "int" = some false by decide +kernel)
  | bool _ => exact kit_ty (show kitB "bool" "int" = some true by decide +kernel)
  | int _ => exact kit_ty (show kitB "int" "int" = some true by decide +kernel)
  | str _ => exact kit_ty (show kitB "str" "int" = some false by decide +kernel)
  | list _ => exact kit_ty (show kitB "list" "int" = some false by decide +kernel)
  | tuple _ => exact kit_ty (show kitB "tuple" "int" = some false by decide +kernel)
  | dict _ => exact kit_ty (show kitB "dict" "int" = some false by decide +kernel)
theorem isi_bool {K : PySem.W.Frag} (d : PyData) : PySem.W.kitOne K (.type (kindOf d)) (.type "bool") = some (isBoolD d) := by
  cases d with
  | none => exact kit_ty (show kitB "NoneType" "bool" = some false by decide +kernel)
  | bool _ => exact kit_ty (show kitB "bool" "bool" = some true by decide +kernel)
  | int _ => exact kit_ty (show kitB "int" "bool" = some false by decide +kernel)
  | str _ => exact kit_ty (show kitB "str" "bool" = some false by decide +kernel)
  | list _ => exact kit_ty (show kitB "list" "bool" = some false by decide +kernel)
  | tuple _ => exact kit_ty (show kitB "tuple" "bool" = some false by decide +kernel)
  | dict _ => exact kit_ty (show kitB "dict" "bool" = some false by decide +kernel)
theorem isi_tup {K : PySem.W.Frag} (d : PyData) : PySem.W.kitOne K (.type (kindOf d)) (.type "tuple") = some (isTupD d) := by
  cases d with
  | none => exact kit_ty (show kitB "NoneType" "tuple" = some false by decide +kernel)
  | bool _ => exact kit_ty (show kitB "bool" "tuple" = some false by decide +kernel)
  | int _ => exact kit_ty (show kitB "int" "tuple" = some false by decide +kernel)
  | str _ => exact kit_ty (show kitB "str" "tuple" = some false by decide +kernel)
  | list _ => exact kit_ty (show kitB "list" "tuple" = some false by decide +kernel)
  | tuple _ => exact kit_ty (show kitB "tuple" "tuple" = some true by decide +kernel)
  | dict _ => exact kit_ty (show kitB "dict" "tuple" = some false by decide +kernel)
/-- isinstance(x, T) of a datum -/
theorem isi {K : PySem.W.Frag} {a : Addr} {H : Hp} {Q : VK} {v : V} {d : PyData} {T : String} {b : Bool} (h : Da a H v d) (k : PySem.W.kitOne K (.type (kindOf d)) (.type T) = some b) (q : Q (.bl b) H) :
    rIsi K [v, .ty T] H Q := ⟨v, .ty T, .type (kindOf d), .type T, b, rfl, .ty T, h.ty, k, q⟩

/-! ### how deep, how wide -/
mutual
def dep : PyData → Nat
  | .list ds => dep1 ds + 1
  | .tuple ds => dep1 ds + 1
  | _ => 0
def dep1 : List PyData → Nat
  | [] => 0
  | d :: ds => max (dep d) (dep1 ds)
end
mutual
def wid : PyData → Nat
  | .list ds => max ds.length (wid1 ds)
  | .tuple ds => max ds.length (wid1 ds)
  | _ => 0
def wid1 : List PyData → Nat
  | [] => 0
  | d :: ds => max (wid d) (wid1 ds)
end
theorem dep1_mem {d : PyData} : ∀ {ds : List PyData}, d ∈ ds → dep d ≤ dep1 ds
  | e :: ds, h => by
    rw [dep1]
    rcases List.mem_cons.mp h with rfl | h
    · exact Nat.le_max_left _ _
    · exact Nat.le_trans (dep1_mem h) (Nat.le_max_right _ _)
theorem wid1_mem {d : PyData} : ∀ {ds : List PyData}, d ∈ ds → wid d ≤ wid1 ds
  | e :: ds, h => by
    rw [wid1]
    rcases List.mem_cons.mp h with rfl | h
    · exact Nat.le_max_left _ _
    · exact Nat.le_trans (wid1_mem h) (Nat.le_max_right _ _)
theorem dep1_le {n : Nat} : ∀ {ds : List PyData}, (∀ d ∈ ds, dep d ≤ n) → dep1 ds ≤ n
  | [], _ => Nat.zero_le _
  | d :: ds, h => by
    rw [dep1]
    exact Nat.max_le.mpr ⟨h d (by simp), dep1_le fun e he => h e (by simp [he])⟩
theorem wid1_le {n : Nat} : ∀ {ds : List PyData}, (∀ d ∈ ds, wid d ≤ n) → wid1 ds ≤ n
  | [], _ => Nat.zero_le _
  | d :: ds, h => by
    rw [wid1]
    exact Nat.max_le.mpr ⟨h d (by simp), wid1_le fun e he => h e (by simp [he])⟩
/-- at most n deep, m wide -/
def Sm (n m : Nat) (d : PyData) : Prop := dep d ≤ n ∧ wid d ≤ m
theorem Sm.up {n m n' m' : Nat} {d : PyData} (h : Sm n m d) (h1 : n ≤ n') (h2 : m ≤ m') : Sm n' m' d := ⟨Nat.le_trans h.1 h1, Nat.le_trans h.2 h2⟩
theorem sm_tup {n m : Nat} {ds : List PyData} (hl : ds.length ≤ m) (h : ∀ d ∈ ds, Sm n m d) : Sm (n + 1) m (.tuple ds) :=
  ⟨by rw [dep]; exact Nat.succ_le_succ (dep1_le fun d hd => (h d hd).1), by rw [wid]; exact Nat.max_le.mpr ⟨hl, wid1_le fun d hd => (h d hd).2⟩⟩
theorem sm_lst {n m : Nat} {ds : List PyData} (hl : ds.length ≤ m) (h : ∀ d ∈ ds, Sm n m d) : Sm (n + 1) m (.list ds) :=
  ⟨by rw [dep]; exact Nat.succ_le_succ (dep1_le fun d hd => (h d hd).1), by rw [wid]; exact Nat.max_le.mpr ⟨hl, wid1_le fun d hd => (h d hd).2⟩⟩
theorem Sm.len {n m : Nat} {ds : List PyData} (h : Sm n m (.tuple ds)) : ds.length ≤ m := by
  have := h.2
  rw [wid] at this
  exact Nat.le_trans (Nat.le_max_left _ _) this
theorem Sm.dep1 {n m : Nat} {ds : List PyData} (h : Sm n m (.tuple ds)) : 1 ≤ n := by
  have := h.1
  rw [dep] at this
  omega
theorem Sm.mem {n m : Nat} {ds : List PyData} {d : PyData} (h : Sm n m (.tuple ds)) (hd : d ∈ ds) : Sm (n - 1) m d := by
  obtain ⟨h1, h2⟩ := h
  rw [dep] at h1
  rw [wid] at h2
  have := dep1_mem hd
  exact ⟨by omega, Nat.le_trans (wid1_mem hd) (Nat.le_trans (Nat.le_max_right _ _) h2)⟩
def smB (n m : Nat) (d : PyData) : Bool := decide (dep d ≤ n) && decide (wid d ≤ m)
theorem sm_of {n m : Nat} {d : PyData} (h : smB n m d = true) : Sm n m d := by
  unfold smB at h
  simpa [Sm] using h

/-- a loop over a range, its body already read -/
theorem for_rng {lo : Int} {n : Nat} {B : (L2.St → Hp → Prop) → V → L2.St → Hp → Prop} {nx : L2.St → Hp → Prop} {σ : L2.St} {H : Hp} (Pv : Nat → L2.St → Hp → Prop) (h0 : Pv 0 σ H)
    (hs : ∀ (i : Nat) σ' H', i < n → Pv i σ' H' → B (Pv (i + 1)) (.int (lo + i)) σ' H') (hd : ∀ σ' H', Pv n σ' H' → nx σ' H') :
    ∃ W : Nat → Nat → L2.St → Hp → Prop, (∃ m, W 0 m σ H) ∧ ∀ i m σ H, W i m σ H →
      ((Itr lo n).stop i H ∧ nx σ H) ∨ ((Itr lo n).go i H ∧ ∃ N : L2.St → Hp → Prop, (∀ σ' H', N σ' H' → ∃ m', m' < m ∧ W (i + 1) m' σ' H') ∧ ∀ x H', (Itr lo n).yld i H x H' → B N x σ H') := by
  refine ⟨fun i m σ H => m = n - i ∧ i ≤ n ∧ Pv i σ H, ⟨n, by simp, Nat.zero_le _, h0⟩, ?_⟩
  rintro i m σ' H' ⟨rfl, hi, p⟩
  by_cases c : i < n
  · refine Or.inr ⟨c, Pv (i + 1), fun σ2 H2 p2 => ⟨n - (i + 1), by omega, rfl, c, p2⟩, fun x H2 y => ?_⟩
    obtain ⟨e1, e2⟩ := y
    subst e1 e2
    exact hs i σ' _ c p
  · have e : i = n := by omega
    subst e
    exact Or.inl ⟨by show i ≤ i; omega, hd σ' H' p⟩

/-- a loop over a list, its body already read -/
theorem for_lst {K : PySem.W.Frag} {a : Addr} {xs : List V} {B : (L2.St → Hp → Prop) → V → L2.St → Hp → Prop} {nx : L2.St → Hp → Prop} {σ : L2.St} {H : Hp} (Pv : Nat → L2.St → Hp → Prop) (h0 : Pv 0 σ H)
    (hl : ∀ i σ' H', i ≤ xs.length → Pv i σ' H' → SqL K H' a xs)
    (hs : ∀ (i : Nat) x σ' H', xs[i]? = some x → Pv i σ' H' → B (Pv (i + 1)) x σ' H') (hd : ∀ σ' H', Pv xs.length σ' H' → nx σ' H') :
    ∃ W : Nat → Nat → L2.St → Hp → Prop, (∃ m, W 0 m σ H) ∧ ∀ i m σ H, W i m σ H →
      ((Itl K a).stop i H ∧ nx σ H) ∨ ((Itl K a).go i H ∧ ∃ N : L2.St → Hp → Prop, (∀ σ' H', N σ' H' → ∃ m', m' < m ∧ W (i + 1) m' σ' H') ∧ ∀ x H', (Itl K a).yld i H x H' → B N x σ H') := by
  refine ⟨fun i m σ H => m = xs.length - i ∧ i ≤ xs.length ∧ Pv i σ H, ⟨xs.length, by simp, Nat.zero_le _, h0⟩, ?_⟩
  rintro i m σ' H' ⟨rfl, hi, p⟩
  have ql := hl i σ' H' hi p
  by_cases c : i < xs.length
  · refine Or.inr ⟨⟨xs, xs[i], ql, by simp [c]⟩, Pv (i + 1), fun σ2 H2 p2 => ⟨xs.length - (i + 1), by omega, rfl, c, p2⟩, fun x H2 y => ?_⟩
    obtain ⟨e1, e2⟩ := y
    subst e1
    exact hs i x σ' _ (e2 xs ql) p
  · have e : i = xs.length := by omega
    subst e
    exact Or.inl ⟨⟨xs, ql, Nat.le_refl _⟩, hd σ' H' p⟩

theorem same_kp {a : Addr} {H H1 H2 : Hp} (s : Same H H1) (n : H a = none) (k : Kp a H1 H2) : Same H H2 := fun b o e => k b o (ne_of_none e n) (s b o e)
/-- [f(i) for i in range(n)] -/
theorem lc_rng {wi : TI} {j : Nat} {elt : TE} {vs : List Nat} {σ : L2.St} {H : Hp} {Q : VK} {n : Nat} (f : Nat → V) (hi : ∀ R : It → Hp → Prop, R (Itr 0 n) H → wi σ H R) (hn : n < 100000)
    (hw : ∀ x, wipe ((wipe σ vs).set j (some x)) vs = wipe σ vs)
    (he : ∀ (i : Nat) H1, i < n → Same H H1 → ∀ R : VK, (∀ H2, Same H1 H2 → R (f i) H2) → elt ((wipe σ vs).set j (some (.int (0 + (i : Int))))) H1 R)
    (q : ∀ D H', Same H H' → H D = none → H' D = some (.lst ((List.range n).map f)) → Q (.ref D) H') : tLc wi (gName j) tYes elt vs σ H Q := by
  refine hi _ fun D hD => ?_
  refine lc_range (lo := 0) (n := n) (fun m H' => Same H H' ∧ H' D = some (.lst ((List.range m).map f))) ⟨same_new hD, upd_same⟩ (fun m H1 hm h => ?_) (fun H' h => q D H' h.1 hD h.2)
  obtain ⟨h1, h2⟩ := h
  refine ⟨hw _, ?_⟩
  unfold tYes
  simp only [if_true]
  refine he m H1 hm h1 _ fun H2 s2 => ⟨(List.range m).map f, s2 _ _ h2, ?_, same_upd (h1.trans s2) hD, ?_⟩
  · rw [List.length_map, List.length_range]; exact lt_line (by omega)
  · rw [upd_same, List.range_succ, List.map_append]; rfl
end Tw

set_option Elab.async false
set_option linter.all false
set_option maxRecDepth 100000
set_option maxHeartbeats 4000000
/-! numbers that may be True or False -/
namespace Tw
open PySem PySem.Spec PyProof.Rows L2
/-- a number, True and False among them -/
inductive Nu : V → Int → Prop
  | int (i : Int) : Nu (.int i) i
  | bl (b : Bool) : Nu (.bl b) (if b = true then 1 else 0)
theorem nu_of {a : Addr} {H : Hp} {v : V} {d : PyData} (h : Da a H v d) (t : isIntD d = true) : ∃ i, Nu v i := by
  cases h with
  | int i => exact ⟨i, .int i⟩
  | bl b => exact ⟨_, .bl b⟩
  | _ => cases t
def rNl (f : Int → Int → Int) : R2 := fun x y H Q => ∃ i j, Nu x i ∧ y = .int j ∧ Q (.int (f i j)) H
def rNr (f : Int → Int → Int) : R2 := fun x y H Q => ∃ i j, x = .int i ∧ Nu y j ∧ Q (.int (f i j)) H
section
variable {X : Cx}
theorem op_addNl : OpR X (binaryOp .Add) (rNl fun i j => i + j) := by
  intro pins s σ H x y v u Q I rx ry h
  obtain ⟨i, j, nx, rfl, q⟩ := h
  obtain ⟨t, rfl⟩ := ry
  cases nx with
  | int _ => obtain ⟨t', rfl⟩ := rx; exact add_int ⟨.int _, H, I.tok _, ⟨_, rfl⟩, q⟩
  | bl b => cases rx; exact IntBool.add_bool_int ⟨.int _, H, I.tok _, ⟨_, rfl⟩, q⟩
theorem op_subNl : OpR X (binaryOp .Sub) (rNl fun i j => i - j) := by
  intro pins s σ H x y v u Q I rx ry h
  obtain ⟨i, j, nx, rfl, q⟩ := h
  obtain ⟨t, rfl⟩ := ry
  cases nx with
  | int _ => obtain ⟨t', rfl⟩ := rx; exact sub_int ⟨.int _, H, I.tok _, ⟨_, rfl⟩, q⟩
  | bl b => cases rx; exact IntBool.sub_bool_int ⟨.int _, H, I.tok _, ⟨_, rfl⟩, q⟩
theorem op_subNr : OpR X (binaryOp .Sub) (rNr fun i j => i - j) := by
  intro pins s σ H x y v u Q I rx ry h
  obtain ⟨i, j, rfl, ny, q⟩ := h
  obtain ⟨t, rfl⟩ := rx
  cases ny with
  | int _ => obtain ⟨t', rfl⟩ := ry; exact sub_int ⟨.int _, H, I.tok _, ⟨_, rfl⟩, q⟩
  | bl b => cases ry; exact IntBool.sub_int_bool ⟨.int _, H, I.tok _, ⟨_, rfl⟩, q⟩
/-- a small number times such a one -/
theorem op_mulNr : OpR X (binaryOp .Mult) (fun x y H Q => ∃ i j, x = .int i ∧ (-(2 ^ 64) < i ∧ i < 2 ^ 64) ∧ Nu y j ∧ Q (.int (i * j)) H) := by
  intro pins s σ H x y v u Q I rx ry h
  obtain ⟨i, j, rfl, ⟨b1, b2⟩, ny, q⟩ := h
  obtain ⟨t, rfl⟩ := rx
  cases ny with
  | int _ => obtain ⟨t', rfl⟩ := ry; exact mul_int ⟨.int _, H, I.tok _, ⟨_, rfl⟩, q⟩ (.of_left (intBits_le_64 b1 b2))
  | bl b => cases ry; exact IntBool.mul_int_bool ⟨.int _, H, I.tok _, ⟨_, rfl⟩, q⟩
/-- == of such a number and an int -/
theorem op_eqNl : OpR X (compareOp .Eq) (fun x y H Q => ∃ i j, Nu x i ∧ y = .int j ∧ Q (.bl (i == j)) H) := by
  intro pins s σ H x y v u Q I rx ry h
  obtain ⟨i, j, nx, rfl, q⟩ := h
  obtain ⟨t, rfl⟩ := ry
  cases nx with
  | int _ => obtain ⟨t', rfl⟩ := rx; exact eq_int ⟨.bl _, H, I, rfl, q⟩
  | bl b => cases rx; exact EqBoolInt.eq_bool_int ⟨.bl _, H, I, rfl, q⟩
end
end Tw

set_option Elab.async false
set_option linter.all false
set_option maxRecDepth 100000
set_option maxHeartbeats 4000000
/-! slices, sums, turned tuples of data -/
namespace Tw
open PySem PySem.Spec PyProof.Rows L2
section
variable {K : PySem.W.Frag} {a : Addr} {H : Hp} {v u : V} {ds es : List PyData} {Q : VK}
theorem da_tup (h : Da a H v (.tuple ds)) : ∃ p xs, v = .ref p ∧ p ≠ a ∧ H p = some (.tup xs) ∧ DaAll a H xs ds := by
  cases h with
  | tup n e r => exact ⟨_, _, rfl, n, e, r⟩
theorem cut_whole {ds : List PyData} {lo hi : Option Int} (h : HT.sIx ds.length 0 lo = 0 ∧ HT.sIx ds.length ds.length hi = ds.length) : cutD ds lo hi = ds := by
  unfold cutD
  rw [h.1, h.2, List.drop_zero, Nat.sub_zero, List.take_length]
theorem sl_da {lo hi : Option Int} (w : H a ≠ none) (h : Da a H v (.tuple ds)) (q : ∀ v' H', Same H H' → Da a H' v' (.tuple (cutD ds lo hi)) → Q v' H') : rSlA K v lo hi H Q := by
  obtain ⟨p, xs, rfl, np, hp, hx⟩ := da_tup h
  refine ⟨p, xs, rfl, SqT.of hp, fun c => ?_, fun c t nt => ?_⟩
  · rw [hx.len] at c
    exact q _ _ (Same.refl H) (by rw [cut_whole c]; exact h)
  · have s := same_new (o := .tup (cutV xs lo hi)) nt
    exact q _ _ s (.tup (new_ne w nt) upd_same ((hx.cut lo hi).same s))
theorem cat_da (w : H a ≠ none) (h : Da a H v (.tuple ds)) (g : Da a H u (.tuple es)) (hz : ds.length + es.length ≤ 100000) (q : ∀ v' H', Same H H' → Da a H' v' (.tuple (ds ++ es)) → Q v' H') : rCatA K v u H Q := by
  obtain ⟨p, xs, rfl, np, hp, hx⟩ := da_tup h
  obtain ⟨r, ys, rfl, nr, hr, hy⟩ := da_tup g
  refine ⟨p, r, xs, ys, rfl, rfl, SqT.of hp, SqT.of hr, sz (by rw [hx.len, hy.len]; exact hz), fun c => ?_, fun c c2 => ?_, fun c c2 t nt => ?_⟩
  · subst c
    cases hx
    exact q _ _ (Same.refl H) g
  · subst c2
    cases hy
    exact q _ _ (Same.refl H) (by rw [List.append_nil]; exact h)
  · have s := same_new (o := .tup (xs ++ ys)) nt
    exact q _ _ s (.tup (new_ne w nt) upd_same ((hx.append hy).same s))
theorem rev_da (w : H a ≠ none) (h : Da a H v (.tuple ds)) (q : ∀ v' H', Same H H' → Da a H' v' (.tuple ds.reverse) → Q v' H') :
    ∃ p xs, v = .ref p ∧ SqT K H p xs ∧ ∀ t, H t = none → Q (.ref t) (upd H t (.tup xs.reverse)) := by
  obtain ⟨p, xs, rfl, np, hp, hx⟩ := da_tup h
  refine ⟨p, xs, rfl, SqT.of hp, fun t nt => ?_⟩
  have s := same_new (o := .tup xs.reverse) nt
  exact q _ _ s (.tup (new_ne w nt) upd_same (hx.rev.same s))
theorem list_da (w : H a ≠ none) (h : Da a H v (.tuple ds)) (q : ∀ v' H', Same H H' → Da a H' v' (.list ds) → Q v' H') :
    ∃ p ys, [v] = [.ref p] ∧ (SqL K H p ys ∨ SqT K H p ys) ∧ ∀ l, H l = none → Q (.ref l) (upd H l (.lst ys)) := by
  obtain ⟨p, xs, rfl, np, hp, hx⟩ := da_tup h
  refine ⟨p, xs, rfl, .inr (SqT.of hp), fun t nt => ?_⟩
  have s := same_new (o := .lst xs) nt
  exact q _ _ s (.lst (new_ne w nt) upd_same (hx.same s))
/-- a written tuple of values that are data -/
theorem tup_da {vs : List V} (w : H a ≠ none) (h : DaAll a H vs ds) (hz : ds.length ≤ 100000) (q : ∀ v' H', Same H H' → Da a H' v' (.tuple ds) → Q v' H') :
    vs.length ≤ sizeLine ∧ ∀ p, H p = none → Q (.ref p) (upd H p (.tup vs)) := by
  refine ⟨sz (by rw [h.len]; exact hz), fun t nt => ?_⟩
  have s := same_new (o := .tup vs) nt
  exact q _ _ s (.tup (new_ne w nt) upd_same (h.same s))
theorem newT {vs : List V} {p : Addr} (w : H a ≠ none) (h : DaAll a H vs ds) (n : H p = none) : Same H (upd H p (.tup vs)) ∧ Da a (upd H p (.tup vs)) (.ref p) (.tuple ds) :=
  ⟨same_new n, .tup (new_ne w n) upd_same (h.same (same_new n))⟩
theorem newL {vs : List V} {p : Addr} (w : H a ≠ none) (h : DaAll a H vs ds) (n : H p = none) : Same H (upd H p (.lst vs)) ∧ Da a (upd H p (.lst vs)) (.ref p) (.list ds) :=
  ⟨same_new n, .lst (new_ne w n) upd_same (h.same (same_new n))⟩
/-- an item of such a one -/
theorem ix_da {i : Int} (h : Da a H v (.tuple ds)) (i0 : 0 ≤ i) (i1 : i < ds.length) (q : ∀ x d, d ∈ ds → Da a H x d → Q x H) : rIxT K v (.int i) H Q := by
  obtain ⟨p, xs, rfl, np, hp, hx⟩ := da_tup h
  obtain ⟨m, rfl⟩ := Int.eq_ofNat_of_zero_le i0
  have hm : m < xs.length := by rw [hx.len]; omega
  obtain ⟨d, e1, e2⟩ := hx.get (List.getElem?_eq_getElem hm)
  exact ⟨p, xs, _, xs[m], rfl, rfl, SqT.of hp, atI_nat (List.getElem?_eq_getElem hm), q _ d (List.mem_of_getElem? e1) e2⟩
end
theorem cut_mem {ds : List PyData} {lo hi : Option Int} {d : PyData} (h : d ∈ cutD ds lo hi) : d ∈ ds := List.mem_of_mem_drop (List.mem_of_mem_take h)
theorem cut_le (ds : List PyData) (lo hi : Option Int) : (cutD ds lo hi).length ≤ ds.length := by
  unfold cutD
  rw [List.length_take, List.length_drop]
  omega
theorem cut_upto (ds : List PyData) (k : Nat) : (cutD ds none (some (k : Int))).length = min k ds.length := by
  unfold cutD
  rw [HT.sIx_nat, HT.sIx_none, List.drop_zero, Nat.sub_zero, List.length_take]
  omega
theorem cut_from (ds : List PyData) (k : Nat) : (cutD ds (some (k : Int)) none).length = ds.length - min k ds.length := by
  unfold cutD
  rw [HT.sIx_nat, HT.sIx_none, List.length_take, List.length_drop]
  omega
theorem sm_sub {n m n' m' : Nat} {ds es : List PyData} (h : Sm n m (.tuple ds)) (hl : es.length ≤ m') (h1 : n ≤ n') (h2 : m ≤ m') (he : ∀ e ∈ es, e ∈ ds ∨ Sm (n' - 1) m' e) : Sm n' m' (.tuple es) := by
  have n1 := h.dep1
  have := sm_tup (n := n' - 1) hl fun e q => by
    rcases he e q with c | c
    · exact (h.mem c).up (by omega) h2
    · exact c
  exact this.up (by omega) (Nat.le_refl _)
theorem sm_subL {n m n' m' : Nat} {ds es : List PyData} (h : Sm n m (.tuple ds)) (hl : es.length ≤ m') (h1 : n ≤ n') (h2 : m ≤ m') (he : ∀ e ∈ es, e ∈ ds ∨ Sm (n' - 1) m' e) : Sm n' m' (.list es) := by
  have n1 := h.dep1
  have := sm_lst (n := n' - 1) hl fun e q => by
    rcases he e q with c | c
    · exact (h.mem c).up (by omega) h2
    · exact c
  exact this.up (by omega) (Nat.le_refl _)
theorem sm_int (n m : Nat) (i : Int) : Sm n m (.int i) := ⟨Nat.zero_le _, Nat.zero_le _⟩
theorem sm_bl (n m : Nat) (b : Bool) : Sm n m (.bool b) := ⟨Nat.zero_le _, Nat.zero_le _⟩
end Tw

set_option Elab.async false
set_option linter.all false
set_option maxRecDepth 100000
set_option maxHeartbeats 4000000
/-! rules: max with default, few times a tuple, *= and >>=, statements that are not reached -/
namespace Tw
open PySem PySem.Spec PyProof.Rows L2
section
variable {X : Cx}
/-- a statement that is not reached -/
def tDead : TS := fun _ _ _ => False
theorem ps_dead {st : Stmt} : PS X st tDead := ⟨fun _ _ _ _ _ _ h => h.elim⟩
theorem pss_dead {st : List Stmt} : PSs X st tDead := ⟨fun _ _ _ _ _ _ h => h.elim⟩
/-- max(l, default=0) of ints that are not negative -/
def maxN (ns : List Int) : Int := ns.foldl max 0
def rMaxZ (K : PySem.W.Frag) : List V → List V → Hp → VK → Prop := fun vs zs H Q => ∃ (a : Addr) (ns : List Int), vs = [.ref a] ∧ zs = [.int 0] ∧ SqL K H a (ns.map V.int) ∧ (∀ n ∈ ns, 0 ≤ n) ∧ Q (.int (maxN ns)) H
theorem cr_maxZ (hc : X.calm = true) (hu : X.A.units + 64 < cLine) : CallRK X (.builtin "max") [Str.ofString "default"] (rMaxZ X.K) := by
  intro pins s σ H vs zs us ws Q I r rz h
  obtain ⟨a, ns, rfl, rfl, hs, hn, q⟩ := h
  obtain ⟨its, rv, hl, _⟩ := I.list hs
  rw [Vals.ref1 r]
  obtain ⟨w1, rfl, e1⟩ := vals1 rz
  obtain ⟨t, rfl⟩ : ∃ t, w1 = Value.int 0 t := e1
  have rd : ReadsAll s.heap its.toArray.toList (ns.map .int) [] := IntsAre.reads _ rv.ints
  have dz : ∀ l : List Int, PyData.depthAll (l.map .int) = 0 := fun l => by
    induction l with
    | nil => rfl
    | cons n l ih => simp only [List.map_cons, PyData.depthAll, PyData.depth, ih]; rfl
  refine PySem.W.max_list_default (xs := ns.map .int) (I.ok.hd hc) hl.isList rd ⟨fun x hx y hy => ?_, fun x hx => ?_⟩ (by rw [dz]; show X.A.units + 1 + 0 < cLine; omega) (fun e h' tk k => ?_) (fun y ys i v h' tk bs e hv rv' k => ?_)
  · obtain ⟨i, _, rfl⟩ := List.mem_map.mp hx
    obtain ⟨j, _, rfl⟩ := List.mem_map.mp hy
    simp only [PySem.W.alike]
  · obtain ⟨i, _, rfl⟩ := List.mem_map.mp hx
    exact fun e => by cases e
  · have : ns = [] := by simpa using e
    subst this
    exact ⟨.int _, H, I.kept k, ⟨_, rfl⟩, q⟩
  · cases ns with
    | nil => cases e
    | cons n l =>
      rw [List.map_cons] at e
      injection e with e1 e2
      subst e1 e2
      rw [PySem.W.maxD_ints] at rv'
      cases rv' with
      | int _ t' =>
        have n0 := hn n (by simp)
        refine ⟨.int _, H, I.kept k, ⟨_, rfl⟩, ?_⟩
        have : maxN (n :: l) = l.foldl max n := by
          unfold maxN
          rw [List.foldl_cons]
          congr 1
          omega
        rw [← this]
        exact q
/-- o *= e, one of them small -/
theorem ip_mul : PIp X .Mult (fun x y H Q => ∃ i j, x = .int i ∧ y = .int j ∧ CMul i j ∧ Q (.int (i * j)) H) := by
  intro pins s σ H x y v u Q I r1 r2 h
  obtain ⟨i, j, rfl, rfl, c, q⟩ := h
  obtain ⟨t, rfl⟩ := r1
  obtain ⟨t', rfl⟩ := r2
  exact PyProof.Rows.imul_int ⟨.int _, H, I.tok _, ⟨_, rfl⟩, q⟩ c.ok
/-- o >>= 1 -/
theorem ip_half : PIp X .RShift (fun x y H Q => ∃ n : Nat, x = .int (n : Int) ∧ y = .int 1 ∧ Q (.int ((n / 2 : Nat) : Int)) H) := by
  intro pins s σ H x y v u Q I r1 r2 h
  obtain ⟨n, rfl, rfl, q⟩ := h
  obtain ⟨t, rfl⟩ := r1
  obtain ⟨t', rfl⟩ := r2
  refine PyProof.Rows.irshift_int (by decide) ?_
  rw [show (2 : Int) ^ (1 : Int).toNat = 2 from rfl, Int.fdiv_eq_ediv_of_nonneg _ (by decide)]
  exact ⟨.int _, H, I.tok _, ⟨_, rfl⟩, q⟩

/-! k times a tuple, k from 0 on -/
theorem tuple_mul1 (l : Addr) (items : Array Value) (n : Nat) (dd : Option Addr) (sl : Array (Option Value)) (u : Tok) :
    Meets (Builtin.«tuple.__mul__» ⟨[.ref l, .int 1 u], []⟩) (fun _ R s => s.heap.get? l = some { cls := .type "tuple", dict := dd, data := .seq items n, slots := sl } ∧ R (.ok (.ret (Value.ref l))) s) :=
  .of_wp fun prog w A R s h => by
    obtain ⟨hp, g, d, tk, os⟩ := s
    obtain ⟨hl, h⟩ := h
    have f1 := AutoSeq1.idx_int
    wp_walk using wpAny_loadPart' hl
    repeat (first
      | (refine wpAny_ite_false (by decide) ?_; wp_walk using wpAny_loadPart' hl)
      | (refine wpAny_ite_true (by simp) ?_; wp_walk using wpAny_loadPart' hl))
    exact ⟨_, rfl, h⟩
theorem tuple_mul0 (l : Addr) (items : Array Value) (n : Nat) (dd : Option Addr) (sl : Array (Option Value)) (u : Tok) (c1 : (items.isEmpty || (0 : Int) == 1) = false) :
    Meets (Builtin.«tuple.__mul__» ⟨[.ref l, .int 0 u], []⟩) (fun _ R s => s.heap.get? l = some { cls := .type "tuple", dict := dd, data := .seq items n, slots := sl } ∧
      R (.ok (.ret (Value.ref s.heap.objs.size))) { s with heap := s.heap.push { cls := Value.type "tuple", data := Data.seq #[] }, toks := s.toks }) :=
  .of_wp fun prog w A R s h => by
    obtain ⟨hp, g, d, tk, os⟩ := s
    obtain ⟨hl, h⟩ := h
    have f1 := AutoSeq1.idx_int
    wp_walk using wpAny_loadPart' hl
    repeat (first
      | (refine wpAny_ite_false (decide_eq_false (by rw [c1]; exact Bool.false_ne_true)) ?_; wp_walk using wpAny_loadPart' hl)
      | (refine wpAny_ite_false (by decide) ?_; wp_walk using wpAny_loadPart' hl)
      | (refine wpAny_ite_true (by simp) ?_; wp_walk using wpAny_loadPart' hl))
    exact ⟨_, rfl, h⟩
def rMulT (K : PySem.W.Frag) : R2 := fun x y H Q => ∃ (l : Addr) (k : Nat) (xs : List V), x = .ref l ∧ y = .int (k : Int) ∧ SqT K H l xs ∧ xs ≠ [] ∧ k ≤ 1000 ∧ xs.length ≤ 1000 ∧
  ∀ t H', Same H H' → SqT K H' t (List.replicate k xs).flatten → Q (.ref t) H'
theorem op_mulT : OpR X (binaryOp .Mult) (rMulT X.K) := by
  intro pins s σ H x y v u Q I rx ry h
  obtain ⟨l, k, xs, rfl, rfl, hT, hne, h1, hz, q⟩ := h
  rcases Nat.lt_or_ge 1 k with h2 | h2
  · exact op_repT pins s σ H _ _ v u Q I rx ry ⟨l, _, xs, rfl, rfl, hT, hne, by omega, by omega, hz, fun p np => q p _ (same_new np) (SqT.of (by rw [Int.toNat_natCast]; exact upd_same))⟩
  have rx' := rx
  cases rx
  obtain ⟨t, rfl⟩ := ry
  obtain ⟨its, r, ⟨⟨cls, dd, data, sl⟩, ho, hc, n, hd⟩, hs⟩ := I.tuple hT
  simp only at hc hd
  subst hc hd
  have hle : its.length = xs.length := r.length.symm
  have hn : its ≠ [] := fun e => hne (by
    rw [e] at hle
    exact List.eq_nil_of_length_eq_zero hle.symm)
  have hi : its.toArray.isEmpty = false := by
    cases its with
    | nil => exact absurd rfl hn
    | cons a b => rfl
  have hk : k = 0 ∨ k = 1 := by omega
  rcases hk with rfl | rfl
  · refine wpAny_binaryOp_repeat_ref (T := "tuple") (U := "int") (by decide) ⟨_, ho, rfl⟩ (fun s' => typeIs_int s' _ t) noFill_tuple_mul F.fills_int_mul F.slot_int_rmul repeat_tuple F.slot_int_index.lookup
      (call_meets F.slot_int_rmul (typeIs_int s _ t) F.entry_int_rmul (F.args_int_rmul_2 _ _) (int_rmul_tuple _ t l its.toArray n dd sl)
        ⟨ho, rfl, ⟨_, ho, rfl⟩, call_meets F.slot_tuple_mul ⟨_, ho, rfl⟩ F.entry_tuple_mul (F.args_tuple_mul_2 _ _) (tuple_mul0 l its.toArray n dd sl t (by rw [hi]; rfl)) ⟨ho, ?_⟩⟩)
    refine ⟨.ref s.heap.objs.size, _, I.laid (t' := s.toks) (o := .tup []) (fun b ob q => Heap.get?_push_of_some _ q) (Nat.le_refl _) ?_, rfl, q _ _ (same_new (I.hok.fresh (Nat.le_refl _))) (SqT.of upd_same)⟩
    exact ⟨by simp, _, .nil, IsTup.new _ _⟩
  · refine wpAny_binaryOp_repeat_ref (T := "tuple") (U := "int") (by decide) ⟨_, ho, rfl⟩ (fun s' => typeIs_int s' _ t) noFill_tuple_mul F.fills_int_mul F.slot_int_rmul repeat_tuple F.slot_int_index.lookup
      (call_meets F.slot_int_rmul (typeIs_int s _ t) F.entry_int_rmul (F.args_int_rmul_2 _ _) (int_rmul_tuple _ t l its.toArray n dd sl)
        ⟨ho, rfl, ⟨_, ho, rfl⟩, call_meets F.slot_tuple_mul ⟨_, ho, rfl⟩ F.entry_tuple_mul (F.args_tuple_mul_2 _ _) (tuple_mul1 l its.toArray n dd sl t) ⟨ho, ?_⟩⟩)
    exact ⟨.ref l, H, I, rfl, q _ _ (Same.refl H) (by simpa using hT)⟩
end
end Tw

set_option linter.all false
set_option maxRecDepth 10000
/-! numbers, rows, polys: what the answers are -/
namespace K25
/-- without the last items that z holds of -/
def trimBy {α : Type} (z : α → Bool) : List α → List α
  | [] => []
  | a :: l => match trimBy z l with
    | [] => if z a then [] else [a]
    | b :: r => a :: b :: r
theorem trimBy_take {α : Type} (z : α → Bool) : ∀ (l : List α) (k : Nat), k ≤ l.length → (∀ i a, k ≤ i → l[i]? = some a → z a = true) → (k = 0 ∨ ∃ a, l[k - 1]? = some a ∧ z a = false) → trimBy z l = l.take k
  | [], k, hk, _, _ => by simp [trimBy]
  | a :: l, 0, _, h1, _ => by
    have ih := trimBy_take z l 0 (Nat.zero_le _) (fun i b _ e => h1 (i + 1) b (Nat.zero_le _) (by simpa using e)) (.inl rfl)
    have za := h1 0 a (Nat.le_refl _) rfl
    simp [trimBy, ih, za]
  | a :: l, 1, _, h1, h2 => by
    have ih := trimBy_take z l 0 (Nat.zero_le _) (fun i b _ e => h1 (i + 1) b (by omega) (by simpa using e)) (.inl rfl)
    have za : z a = false := by
      rcases h2 with h2 | ⟨b, e, f⟩
      · cases h2
      · simp at e; subst e; exact f
    simp [trimBy, ih, za]
  | a :: l, k + 2, hk, h1, h2 => by
    have hk' : k + 1 ≤ l.length := by rw [List.length_cons] at hk; omega
    have ih := trimBy_take z l (k + 1) hk' (fun i b hi e => h1 (i + 1) b (by omega) (by simpa using e)) (by
      rcases h2 with h2 | ⟨b, e, f⟩
      · cases h2
      · exact .inr ⟨b, by simpa using e, f⟩)
    have hn : l.take (k + 1) ≠ [] := by
      intro e
      have := congrArg List.length e
      rw [List.length_take, List.length_nil] at this
      omega
    rw [trimBy, ih]
    cases e : l.take (k + 1) with
    | nil => exact absurd e hn
    | cons b r => simp [e]
theorem trimBy_len {α : Type} (z : α → Bool) : ∀ l : List α, (trimBy z l).length ≤ l.length
  | [] => Nat.le_refl _
  | a :: l => by
    have := trimBy_len z l
    rw [trimBy]
    split
    · split <;> simp
    · rename_i b r e
      rw [e] at this
      simpa using this
theorem trimBy_mem {α : Type} (z : α → Bool) {x : α} : ∀ l : List α, x ∈ trimBy z l → x ∈ l
  | [], h => h
  | a :: l, h => by
    have ih := trimBy_mem z (x := x) l
    rw [trimBy] at h
    split at h
    · split at h
      · simp at h
      · simp at h; simp [h]
    · rename_i b r e
      rw [e] at ih
      rcases List.mem_cons.mp h with h | h
      · simp [h]
      · exact List.mem_cons_of_mem _ (ih h)
theorem trimBy_last {α : Type} (z : α → Bool) {x : α} : ∀ l : List α, (trimBy z l).getLast? = some x → z x = false
  | [], h => by simp [trimBy] at h
  | a :: l, h => by
    have ih := trimBy_last z (x := x) l
    rw [trimBy] at h
    split at h
    · split at h
      · simp at h
      · rename_i hz
        simp at h; subst h; simpa using hz
    · rename_i b r e
      rw [e] at ih
      exact ih (by simpa using h)
abbrev trimI (l : List Int) : List Int := trimBy (fun c => c == 0) l
abbrev trimP (p : List (List Int)) : List (List Int) := trimBy (fun r => r.isEmpty) p
/-- a row, a poly -/
def okR (r : List Int) : Prop := ∀ c, r.getLast? = some c → c ≠ 0
def okP (p : List (List Int)) : Prop := (∀ r ∈ p, okR r) ∧ ∀ r, p.getLast? = some r → r ≠ []
theorem okR_trim (l : List Int) : okR (trimI l) := fun c h => by
  have := trimBy_last _ _ h
  simpa using this
theorem okP_trim {p : List (List Int)} (h : ∀ r ∈ p, okR r) : okP (trimP p) := ⟨fun r hr => h r (trimBy_mem _ _ hr), fun r hr => by
  have := trimBy_last _ _ hr
  intro e
  subst e
  simp at this⟩
/-- at most n long, numbers at most b -/
def Bd (n : Nat) (b : Nat) (p : List (List Int)) : Prop := p.length ≤ n ∧ ∀ r ∈ p, r.length ≤ n ∧ ∀ c ∈ r, c.natAbs ≤ b
def T (n m : Int) : List Int → Int
  | [] => 0
  | c :: r => T n m r * n + c * m ^ r.length
def lng : List (List Int) → Nat
  | [] => 0
  | r :: p => max r.length (lng p)
theorem lng_le {r : List Int} : ∀ {p : List (List Int)}, r ∈ p → r.length ≤ lng p
  | a :: p, h => by
    rw [lng]
    rcases List.mem_cons.mp h with rfl | h
    · exact Nat.le_max_left _ _
    · exact Nat.le_trans (lng_le h) (Nat.le_max_right _ _)
theorem lng_bd {n : Nat} : ∀ {p : List (List Int)}, (∀ r ∈ p, r.length ≤ n) → lng p ≤ n
  | [], _ => Nat.zero_le _
  | r :: p, h => by
    rw [lng]
    exact Nat.max_le.mpr ⟨h r (by simp), lng_bd fun a ha => h a (by simp [ha])⟩
def numAt (n m : Int) (L : Nat) (r : List Int) : Int := T n m r * m ^ (L - r.length)
def nums (n m : Int) (p : List (List Int)) : List Int := p.map (numAt n m (lng p))
/-- what numbers and M share -/
def G : Nat → List Int → Nat
  | M, [] => M
  | M, x :: l => G (Nat.gcd M x.natAbs) l
def mm (m : Int) (k : Nat) : Nat := m.natAbs ^ k
def atx (n m : Int) (p : List (List Int)) : List Int := trimI ((nums n m p).map fun x => x / (G (mm m (lng p - 1)) (nums n m p) : Int))
def col (p : List (List Int)) (k : Nat) : List Int := trimI (p.map fun r => r.getD k 0)
def exch (p : List (List Int)) : List (List Int) := trimP ((List.range (lng p)).map (col p))
theorem okP_exch (p : List (List Int)) : okP (exch p) := okP_trim fun r hr => by
  obtain ⟨k, _, rfl⟩ := List.mem_map.mp hr
  exact okR_trim _
theorem bd_exch {n b : Nat} {p : List (List Int)} (h : Bd n b p) : Bd n b (exch p) := by
  refine ⟨Nat.le_trans (trimBy_len _ _) (by rw [List.length_map, List.length_range]; exact lng_bd fun r hr => (h.2 r hr).1), fun r hr => ?_⟩
  obtain ⟨k, _, rfl⟩ := List.mem_map.mp (trimBy_mem _ _ hr)
  refine ⟨Nat.le_trans (trimBy_len _ _) (by rw [List.length_map]; exact h.1), fun c hc => ?_⟩
  obtain ⟨r, hr, rfl⟩ := List.mem_map.mp (trimBy_mem _ _ hc)
  rw [List.getD_eq_getElem?_getD]
  cases e : r[k]? with
  | none => simp
  | some x => exact (h.2 r hr).2 x (List.mem_of_getElem? e)
theorem G_append : ∀ (M : Nat) (l : List Int) (x : Int), G M (l ++ [x]) = Nat.gcd (G M l) x.natAbs
  | M, [], x => rfl
  | M, y :: l, x => by
    show G _ (l ++ [x]) = Nat.gcd (G _ l) x.natAbs
    exact G_append _ l x
theorem G_dvd : ∀ (l : List Int) (M : Nat), G M l ∣ M
  | [], M => Nat.dvd_refl _
  | x :: l, M => Nat.dvd_trans (G_dvd l _) (Nat.gcd_dvd_left _ _)
theorem G_mem {y : Int} : ∀ (l : List Int) (M : Nat), y ∈ l → G M l ∣ y.natAbs
  | x :: l, M, h => by
    rcases List.mem_cons.mp h with rfl | h
    · exact Nat.dvd_trans (G_dvd l _) (Nat.gcd_dvd_right _ _)
    · exact G_mem l _ h
theorem G_gcd : ∀ (l : List Int) (a M : Nat), Nat.gcd (G a l) M = G (Nat.gcd a M) l
  | [], a, M => rfl
  | x :: l, a, M => by
    show Nat.gcd (G (Nat.gcd a x.natAbs) l) M = G (Nat.gcd (Nat.gcd a M) x.natAbs) l
    rw [G_gcd l, Nat.gcd_assoc, Nat.gcd_comm x.natAbs M, ← Nat.gcd_assoc]
theorem G_one (l : List Int) : G 1 l = 1 := Nat.eq_one_of_dvd_one (G_dvd l 1)
/-- the program's share -/
theorem G_zero (l : List Int) (M : Nat) : Nat.gcd (G 0 l) M = G M l := by rw [G_gcd, Nat.gcd_zero_left]
/-- a over b is N over D, b positive, nothing shared -/
def Lo (a b N D : Int) : Prop := 0 < b ∧ Nat.gcd a.natAbs b.natAbs = 1 ∧ a * D = N * b
theorem lo_share {a b N D : Int} (h : Lo a b N D) (d : 0 < D) : b * (Nat.gcd N.natAbs D.natAbs : Int) = D ∧ a * (Nat.gcd N.natAbs D.natAbs : Int) = N := by
  obtain ⟨b0, c, e⟩ := h
  have dv : b ∣ D := by
    have h1 : b.natAbs ∣ a.natAbs * D.natAbs := by
      rw [← Int.natAbs_mul, e, Int.natAbs_mul]
      exact Nat.dvd_mul_left _ _
    have h2 : b.natAbs ∣ D.natAbs := (Nat.Coprime.dvd_of_dvd_mul_left (Nat.coprime_comm.mp c) h1)
    exact Int.natAbs_dvd_natAbs.mp h2
  obtain ⟨k, rfl⟩ := dv
  have k0 : 0 < k := by
    rcases Int.lt_or_le 0 k with z | z
    · exact z
    · have := Int.mul_le_mul_of_nonneg_left z (Int.le_of_lt b0)
      rw [Int.mul_zero] at this
      omega
  have eN : N = a * k := by
    have h3 : (a * k) * b = N * b := by rw [← e, Int.mul_assoc, Int.mul_comm k b]
    exact (Int.eq_of_mul_eq_mul_right (by omega) h3).symm
  subst eN
  have g : (Nat.gcd (a * k).natAbs (b * k).natAbs : Int) = k := by
    rw [Int.natAbs_mul, Int.natAbs_mul, Nat.gcd_mul_right, c, Nat.one_mul]
    omega
  rw [g]
  exact ⟨rfl, rfl⟩
/-- the least common multiple's step -/
theorem lcm_step {l g b h M : Nat} (m0 : 0 < M) (e1 : l * g = M) (e2 : b * h = M) : (l * b / Nat.gcd l b) * Nat.gcd g h = M := by
  have hl : l ∣ M := ⟨g, e1.symm⟩
  have l0 : 0 < l := Nat.pos_of_dvd_of_pos hl m0
  have d0 : 0 < Nat.gcd l b := Nat.gcd_pos_of_pos_left _ l0
  have q : (l * b / Nat.gcd l b) * Nat.gcd l b = l * b := Nat.div_mul_cancel (Nat.dvd_trans (Nat.gcd_dvd_left l b) (Nat.dvd_mul_right _ _))
  have k : Nat.gcd g h * (l * b) = M * Nat.gcd l b := by
    rw [← Nat.gcd_mul_right]
    have a1 : g * (l * b) = M * b := by rw [← e1, ← Nat.mul_assoc, Nat.mul_comm g l]
    have a2 : h * (l * b) = M * l := by rw [← e2, Nat.mul_comm l b, ← Nat.mul_assoc, Nat.mul_comm h b]
    rw [a1, a2, Nat.gcd_mul_left, Nat.gcd_comm b l]
  refine Nat.eq_of_mul_eq_mul_right d0 ?_
  rw [Nat.mul_assoc, Nat.mul_comm (Nat.gcd g h), ← Nat.mul_assoc, q, Nat.mul_comm (l * b), k]
theorem pow_pos' {m : Int} (h : 0 < m) : ∀ k : Nat, 0 < m ^ k
  | 0 => by simp
  | k + 1 => by rw [Int.pow_succ]; exact Int.mul_pos (pow_pos' h k) h
theorem mm_eq {m : Int} (h : 0 < m) (k : Nat) : ((mm m k : Nat) : Int) = m ^ k := by
  unfold mm
  rw [Int.natCast_pow, Int.natAbs_of_nonneg (Int.le_of_lt h)]
/-- a row's worth, over the common base -/
theorem lo_at {n m a b : Int} {r : List Int} {L : Nat} (m0 : 0 < m) (hl : r.length ≤ L) (h : Lo a b (T n m r * m) (m ^ r.length)) : Lo a b (numAt n m L r) (m ^ (L - 1)) := by
  refine ⟨h.1, h.2.1, ?_⟩
  have e := h.2.2
  unfold numAt
  cases hr : r with
  | nil =>
    subst hr
    have : a = 0 := by simpa [T] using e
    simp [T, this]
  | cons c s =>
    rw [← hr]
    have l1 : r.length = s.length + 1 := by rw [hr]; rfl
    have e2 : a * m ^ s.length = T n m r * b := by
      rw [l1, Int.pow_succ] at e
      refine Int.eq_of_mul_eq_mul_right (a := m) (by omega) ?_
      rw [Int.mul_assoc, e, Int.mul_assoc, Int.mul_comm m b, Int.mul_assoc]
    have e3 : L - 1 = s.length + (L - r.length) := by omega
    rw [e3, Int.pow_add, ← Int.mul_assoc, e2, Int.mul_assoc, Int.mul_comm b, ← Int.mul_assoc]
/-! sizes -/
theorem T_le {n m : Int} {B : Nat} (hn : n.natAbs ≤ 12) (m0 : m.natAbs ≤ 7) : ∀ r : List Int, (∀ c ∈ r, c.natAbs ≤ B) → (T n m r).natAbs ≤ B * 20 ^ r.length
  | [], _ => by simp [T]
  | c :: r, h => by
    have ih := T_le hn m0 r fun d hd => h d (by simp [hd])
    have hc := h c (by simp)
    rw [T]
    refine Nat.le_trans (Int.natAbs_add_le _ _) ?_
    rw [Int.natAbs_mul, Int.natAbs_mul, Int.natAbs_pow, List.length_cons, Nat.pow_succ]
    have a1 : (T n m r).natAbs * n.natAbs ≤ B * 20 ^ r.length * 12 := Nat.mul_le_mul ih hn
    have a2 : c.natAbs * m.natAbs ^ r.length ≤ B * 20 ^ r.length := Nat.mul_le_mul hc (Nat.le_trans (Nat.pow_le_pow_left m0 _) (Nat.pow_le_pow_left (by omega) _))
    have a3 : B * (20 ^ r.length * 20) = B * 20 ^ r.length * 20 := by rw [Nat.mul_assoc]
    omega
theorem num_le {n m : Int} {B L : Nat} (hn : n.natAbs ≤ 12) (m0 : m.natAbs ≤ 7) (hL : L ≤ 10) {r : List Int} (hr : r.length ≤ 10) (h : ∀ c ∈ r, c.natAbs ≤ B) : (numAt n m L r).natAbs ≤ B * 20 ^ 10 * 7 ^ 10 := by
  unfold numAt
  rw [Int.natAbs_mul, Int.natAbs_pow]
  refine Nat.mul_le_mul (Nat.le_trans (T_le hn m0 r h) (Nat.mul_le_mul_left _ (Nat.pow_le_pow_right (by omega) hr))) ?_
  exact Nat.le_trans (Nat.pow_le_pow_left m0 _) (Nat.pow_le_pow_right (by omega) (by omega))
theorem lo_lean {top low : Int} (h : 0 < low) : Lo (top / (Nat.gcd top.natAbs low.natAbs : Int)) (low / (Nat.gcd top.natAbs low.natAbs : Int)) top low := by
  have g0 : 0 < Nat.gcd top.natAbs low.natAbs := Nat.gcd_pos_of_pos_right _ (by omega)
  generalize hg : Nat.gcd top.natAbs low.natAbs = g at g0
  have d1 : (g : Int) ∣ top := Int.natAbs_dvd_natAbs.mp (by rw [← hg]; exact Nat.gcd_dvd_left _ _)
  have d2 : (g : Int) ∣ low := Int.natAbs_dvd_natAbs.mp (by rw [← hg]; exact Nat.gcd_dvd_right _ _)
  obtain ⟨x, rfl⟩ := d1
  obtain ⟨y, rfl⟩ := d2
  have gn : (g : Int) ≠ 0 := by omega
  rw [Int.mul_ediv_cancel_left _ gn, Int.mul_ediv_cancel_left _ gn]
  refine ⟨?_, ?_, by grind⟩
  · rcases Int.lt_or_le 0 y with z | z
    · exact z
    · have := Int.mul_le_mul_of_nonneg_left z (show (0 : Int) ≤ g by omega)
      rw [Int.mul_zero] at this
      omega
  · rw [Int.natAbs_mul, Int.natAbs_mul, Nat.gcd_mul_left, Int.natAbs_natCast] at hg
    have h1 : g * Nat.gcd x.natAbs y.natAbs = g * 1 := by rw [hg, Nat.mul_one]
    exact Nat.eq_of_mul_eq_mul_left g0 h1
theorem lo_mul {a b N D n m x y : Int} (h : Lo a b N D) (g : Lo x y (a * n) (b * m)) : Lo x y (N * n) (D * m) := by
  refine ⟨g.1, g.2.1, ?_⟩
  have b0 := h.1
  have h1 := h.2.2
  have h2 := g.2.2
  have : (x * (D * m)) * b = (N * n * y) * b := by grind
  exact Int.eq_of_mul_eq_mul_right (by omega) this
theorem lo_add {a b N D c x y : Int} (h : Lo a b N D) (g : Lo x y (a * 1 + c * b) (b * 1)) : Lo x y (N + c * D) D := by
  refine ⟨g.1, g.2.1, ?_⟩
  have b0 := h.1
  have h1 := h.2.2
  have h2 := g.2.2
  have : (x * D) * b = ((N + c * D) * y) * b := by grind
  exact Int.eq_of_mul_eq_mul_right (by omega) this
theorem lo_le {a b N D : Int} (h : Lo a b N D) (d : 0 < D) : b ≤ D := by
  have := (lo_share h d).1
  have g0 : 0 < Nat.gcd N.natAbs D.natAbs := Nat.gcd_pos_of_pos_right _ (by omega)
  have b0 := h.1
  have := Int.mul_le_mul_of_nonneg_left (show (1 : Int) ≤ (Nat.gcd N.natAbs D.natAbs : Int) by omega) (show 0 ≤ b by omega)
  omega
theorem pow_le7 {m : Int} (m0 : 0 < m) (m1 : m ≤ 7) (k : Nat) : m ^ k ≤ 7 ^ k := by
  induction k with
  | zero => simp
  | succ k ih =>
    rw [Int.pow_succ, Int.pow_succ]
    exact Int.mul_le_mul ih m1 (by omega) (Int.le_of_lt (pow_pos' (by omega) k))
theorem pow_mono7 {k j : Nat} (h : k ≤ j) : (7 : Int) ^ k ≤ 7 ^ j := by
  have := Nat.pow_le_pow_right (n := 7) (by omega) h
  exact_mod_cast this
theorem max_lng {p : List (List Int)} {k : Int} (h1 : k ∈ (0 : Int) :: p.map (fun r => (r.length : Int))) (h2 : ∀ y ∈ (0 : Int) :: p.map (fun r => (r.length : Int)), y ≤ k) : k = (lng p : Int) := by
  have up : (lng p : Int) ≤ k := by
    clear h1
    induction p with
    | nil => exact h2 0 (by simp)
    | cons r p ih =>
      have a := ih fun y hy => h2 y (by
        rcases List.mem_cons.mp hy with hy | hy
        · simp [hy]
        · rw [List.map_cons]; exact List.mem_cons_of_mem _ (List.mem_cons_of_mem _ hy))
      have b := h2 r.length (by simp)
      rw [lng]
      omega
  rcases List.mem_cons.mp h1 with h | h
  · omega
  · obtain ⟨r, hr, rfl⟩ := List.mem_map.mp h
    have := lng_le hr
    omega
/-- the loop's step -/
theorem low_step {l Gn M : Nat} {a b N : Int} (m0 : 0 < M) (e : l * Gn = M) (h : Lo a b N (M : Int)) : (l * b.natAbs / Nat.gcd l b.natAbs) * Nat.gcd Gn N.natAbs = M := by
  have sh := (lo_share h (by omega)).1
  have e2 : b.natAbs * Nat.gcd N.natAbs M = M := by
    have := congrArg Int.natAbs sh
    rw [Int.natAbs_mul, Int.natAbs_natCast, Int.natAbs_natCast] at this
    exact this
  have := lcm_step m0 e e2
  have d : Gn ∣ M := ⟨l, by rw [← e, Nat.mul_comm]⟩
  have g : Nat.gcd Gn (Nat.gcd N.natAbs M) = Nat.gcd Gn N.natAbs := by
    rw [Nat.gcd_comm N.natAbs M, ← Nat.gcd_assoc, Nat.gcd_eq_left d]
  rw [g] at this
  exact this
theorem low_end {l Gn M : Nat} {a b N : Int} (m0 : 0 < M) (e : l * Gn = M) (d : Gn ∣ N.natAbs) (h : Lo a b N (M : Int)) : a * ((l : Int) / b) = N / (Gn : Int) := by
  obtain ⟨s1, s2⟩ := lo_share h (by omega)
  have g1 : Gn ∣ M := ⟨l, by rw [← e, Nat.mul_comm]⟩
  have g0 : 0 < Gn := Nat.pos_of_dvd_of_pos g1 m0
  have g2 : Gn ∣ Nat.gcd N.natAbs M := Nat.dvd_gcd d g1
  rw [Int.natAbs_natCast] at s1 s2
  obtain ⟨k, hk⟩ := g2
  rw [hk] at s1 s2
  have b0 := h.1
  have gi : (Gn : Int) ≠ 0 := by omega
  have el : (l : Int) = b * k := by
    have : (l : Int) * Gn = (b * k) * Gn := by
      rw [show (l : Int) * Gn = ((l * Gn : Nat) : Int) from by simp, e, ← s1]
      rw [Int.natCast_mul]
      grind
    exact Int.eq_of_mul_eq_mul_right gi this
  rw [el, Int.mul_ediv_cancel_left _ (by omega), ← s2, Int.natCast_mul]
  rw [show a * ((Gn : Int) * (k : Int)) = (Gn : Int) * (a * k) from by grind, Int.mul_ediv_cancel_left _ gi]
theorem mm_pos {m : Int} (h : 0 < m) (k : Nat) : 0 < mm m k := Nat.pow_pos (by omega)
theorem mm_le {m : Int} (h : m.natAbs ≤ 7) {k : Nat} (hk : k ≤ 7) : mm m k ≤ 823543 := by
  have : mm m k ≤ 7 ^ 7 := Nat.le_trans (Nat.pow_le_pow_left h k) (Nat.pow_le_pow_right (by omega) hk)
  exact this
theorem G_take {n m : Int} {p : List (List Int)} {M i : Nat} {r : List Int} (h : p[i]? = some r) : G M ((nums n m p).take (i + 1)) = Nat.gcd (G M ((nums n m p).take i)) (numAt n m (lng p) r).natAbs := by
  have e : (nums n m p)[i]? = some (numAt n m (lng p) r) := by unfold nums; rw [List.getElem?_map, h]; rfl
  rw [List.take_add_one, e]
  exact G_append _ _ _
theorem G_split : ∀ (l k : List Int) (M : Nat), G M (l ++ k) = G (G M l) k
  | [], k, M => rfl
  | x :: l, k, M => G_split l k _
theorem G_early {l : List Int} {i : Nat} (h : G 0 (l.take i) = 1) : G 0 l = 1 := by
  have e : l = l.take i ++ l.drop i := (List.take_append_drop i l).symm
  rw [e, G_split, h]
  exact G_one _
theorem max_fold : ∀ (p : List (List Int)) (a : Int), 0 ≤ a → (p.map fun r => ((r.length : Nat) : Int)).foldl max a = max a (lng p : Int)
  | [], a, h => by
    show a = max a (((0 : Nat)) : Int)
    omega
  | r :: p, a, h => by
    rw [List.map_cons, List.foldl_cons, max_fold p _ (by omega), lng]
    omega
end K25

set_option Elab.async false
set_option linter.all false
set_option maxRecDepth 100000
set_option maxHeartbeats 4000000
local macro_rules | `(tactic| walk_at "rd") => `(tactic| dsimp only [L2.tSeq, L2.tNext, L2.tRet, L2.tRetN, L2.tAsg, L2.gName, L2.tIfS, L2.tDrop, L2.tCons, L2.tNil, L2.tC, L2.tVar, L2.tCB, L2.tAndV, L2.tOrV, L2.tNotV, L2.tB, L2.tTest, L2.tOp, L2.tUn, L2.tNot, L2.tAnd, L2.tOr, L2.tIf, L2.tCall, L2.tTup, L2.tLst, L2.tNotT, L2.tYes])
namespace K25
open PySem PySem.Spec PyProof.Rows L2 Tw
def top (i : Nat) : Stmt := PySem.Challenge.pw_twoletters_k25_whole_resultants_by_own_d.main.body.getD i (.Pass ⟨0, 0, 0, 0⟩)
abbrev sWhole : Stmt := top 1
abbrev sPower : Stmt := top 2
abbrev sTrimmed : Stmt := top 4
abbrev sPacked : Stmt := top 5
abbrev sUnpacked : Stmt := top 6
abbrev sFRest : Stmt := top 8
abbrev sOwnH : Stmt := top 9
abbrev sSubres : Stmt := top 10
abbrev sWRes : Stmt := top 11
abbrev sSizes : Stmt := top 12
abbrev sBitsFor : Stmt := top 13
abbrev sPackedP : Stmt := top 14
abbrev sPRes : Stmt := top 15
abbrev sRow : Stmt := top 20
abbrev sPoly : Stmt := top 22
abbrev sChk : Stmt := top 23
abbrev sRes : Stmt := top 24
abbrev sWell : Stmt := top 26
abbrev sDraw : Stmt := top 27
abbrev sTrim : Stmt := top 28
abbrev sLScaled : Stmt := top 29
abbrev sRSum : Stmt := top 30
abbrev sRTimes : Stmt := top 31
abbrev sPTimes : Stmt := top 32
abbrev sNum : Stmt := top 33
abbrev sLRow : Stmt := top 34
abbrev sIsRow : Stmt := top 35
abbrev sVal : Stmt := top 36
abbrev sTab : Stmt := top 37
abbrev sDet : Stmt := top 38
abbrev sSome : Stmt := top 39
abbrev sRight : Stmt := top 40
abbrev sLaw : Stmt := top 41
/-- built-in names that the text gives no other meaning -/
structure Nb (mg : Str → Option Value) : Prop where
  isi : mg "isinstance" = none
  int : mg "int" = none
  bool : mg "bool" = none
  tup : mg "tuple" = none
  all : mg "all" = none
  len : mg "len" = none
  lst : mg "list" = none
  dvm : mg "divmod" = none
  rng : mg "range" = none
  max : mg "max" = none
  min : mg "min" = none
  abs : mg "abs" = none
  repr : mg "repr" = none
  rev : mg "reversed" = none
  sum : mg "sum" = none
  zip : mg "zip" = none
  any : mg "any" = none
  enm : mg "enumerate" = none

/-! ### what the answers are -/
def wholeB (d : PyData) : Bool := isIntD d && !isBoolD d
def lastD (ds : List PyData) (d : PyData) : Bool := match ds.getLast? with
  | some e => !(PyData.eqv e d)
  | none => true
def rowB : PyData → Bool
  | .tuple ds => (ds.map wholeB).all id && lastD ds (.int 0)
  | _ => false
def polyB : PyData → Bool
  | .tuple ds => (ds.map rowB).all id && lastD ds (.tuple [])
  | _ => false
/-- the answer is f of the datum -/
def spB (f : PyData → Bool) : Sp := fun vs H Q _ => ∃ a v d m, vs = [v] ∧ Da a H v d ∧ Sm m 1000 d ∧ ∀ H', Same H H' → Q (.bl (f d)) H'

theorem getLast_get {α : Type} {xs : List α} {x : α} (h : xs.getLast? = some x) : xs[xs.length - 1]? = some x := by
  rw [← List.getLast?_eq_getElem?]; exact h
theorem atI_end {α : Type} {xs : List α} {x : α} (h : xs.getLast? = some x) : atI xs (-1) = some x := by
  obtain ⟨ys, rfl⟩ := List.getLast?_eq_some_iff.mp h
  exact atI_last _ _
theorem last_both {a : Addr} {H : Hp} {xs : List V} {ds : List PyData} (h : DaAll a H xs ds) (ne : ds ≠ []) : ∃ x d, xs.getLast? = some x ∧ ds.getLast? = some d ∧ d ∈ ds ∧ Da a H x d := by
  have l := h.len
  have hp : 0 < ds.length := List.length_pos_iff.mpr ne
  have hx : xs.length - 1 < xs.length := by omega
  obtain ⟨d, e1, e2⟩ := h.get (List.getElem?_eq_getElem hx)
  refine ⟨xs[xs.length - 1], d, ?_, ?_, List.mem_of_getElem? e1, e2⟩
  · rw [List.getLast?_eq_getElem?]; exact List.getElem?_eq_getElem hx
  · rw [List.getLast?_eq_getElem?, ← l]; exact e1
section
variable {P : Program} {w : World} {K : PySem.W.Frag} {mg : Str → Option Value} {base : Heap}
theorem scWhole : FnScope ["value"] ["value"] (defScope sWhole) := ⟨rfl, rfl, rfl, by decide +kernel, rfl, by decide +kernel, by decide +kernel⟩
theorem ok_whole (D : Def K mg "is_whole" sWhole ["value"]) (nb : Nb mg) : Cal P w K mg base "is_whole" 1 ["value"] (spB wholeB) := by
  refine D.ok scWhole (fun vs H Q E h => ?_) (fun f cdv A out s H vs Q E hr h => ?_)
  · obtain ⟨a, v, d, m, rfl, _⟩ := h; rfl
  obtain ⟨a, v, d, m, rfl, hd, hs, q⟩ := h
  refine ⟨_, pss_one (ps_ret (pe_and (pe_callB (id := "isinstance") (r := rIsi K) call_isi (by rfl) nb.isi (by decide +kernel) (pa_cons (pv 0) (pa_cons (pe_bltn (v := .ty "int") (by rfl) nb.int (by decide +kernel) rfl) pa_nil)))
    (pe_one (pe_not (pe_callB (id := "isinstance") (r := rIsi K) call_isi (by rfl) nb.isi (by decide +kernel) (pa_cons (pv 0) (pa_cons (pe_bltn (v := .ty "bool") (by rfl) nb.bool (by decide +kernel) rfl) pa_nil))))))), ?_⟩
  walk_at "rd"
  refine ⟨v, rfl, isi hd (isi_int d) ⟨isIntD d, rfl, ?_⟩⟩
  have q' := q H (Same.refl H)
  unfold wholeB at q'
  cases hi : isIntD d with
  | false => rw [hi] at q'; exact iteF q'
  | true =>
    rw [hi] at q'
    refine iteT ⟨v, rfl, isi hd (isi_bool d) ⟨isBoolD d, rfl, q'⟩⟩

theorem tup_of {a : Addr} {H : Hp} {v : V} {d : PyData} (h : Da a H v d) (t : isTupD d = true) : ∃ p xs ds, v = .ref p ∧ d = .tuple ds ∧ p ≠ a ∧ H p = some (.tup xs) ∧ DaAll a H xs ds := by
  cases h with
  | tup n e r => exact ⟨_, _, _, rfl, rfl, n, e, r⟩
  | _ => exact absurd t (by simp [isTupD])
theorem int_of {a : Addr} {H : Hp} {v : V} {d : PyData} (h : Da a H v d) (t : wholeB d = true) : ∃ i, v = .int i ∧ d = .int i := by
  cases h with
  | int i => exact ⟨i, rfl, rfl⟩
  | _ => exact absurd t (by simp [wholeB, isIntD, isBoolD])
theorem not_tup {d : PyData} (h : isTupD d = false) : rowB d = false ∧ polyB d = false := by
  cases d <;> first | exact ⟨rfl, rfl⟩ | cases h
theorem row_tup {d : PyData} (h : rowB d = true) : isTupD d = true := by
  cases d <;> first | rfl | cases h
theorem all_mem {f : PyData → Bool} {ds : List PyData} {d : PyData} (h : (ds.map f).all id = true) (m : d ∈ ds) : f d = true := by
  rw [List.all_eq_true] at h
  exact h (f d) (List.mem_map_of_mem m)
theorem empty_iff {a : Addr} {H : Hp} {xs : List V} {ds : List PyData} (h : DaAll a H xs ds) : xs.isEmpty = ds.isEmpty := by
  cases h <;> rfl
theorem wipe1 (σ : L2.St) (j : Nat) (x : V) : wipe ((wipe σ [j]).set j (some x)) [j] = wipe σ [j] := by
  show ((σ.set j none).set j (some x)).set j none = σ.set j none
  rw [List.set_set, List.set_set]

theorem scRow : FnScope ["value", "number"] ["value"] (defScope sRow) := ⟨rfl, rfl, rfl, by decide +kernel, rfl, by decide +kernel, by decide +kernel⟩
theorem ok_row (D : Def K mg "is_row" sRow ["value"]) (nb : Nb mg) (c1 : Cal P w K mg base "is_whole" 1 ["value"] (spB wholeB)) : Cal P w K mg base "is_row" 2 ["value"] (spB rowB) := by
  refine D.ok scRow (fun vs H Q E h => ?_) (fun f cdv A out s H vs Q E hr h => ?_)
  · obtain ⟨a, v, d, m, rfl, _⟩ := h; rfl
  obtain ⟨a, v, d, m, rfl, hd, hs, q⟩ := h
  refine ⟨_, pss_cons (ps_if (PW.pt (pw_or (pt_not (pt_val (pe_callB (id := "isinstance") (r := rIsi K) call_isi (by rfl) nb.isi (by decide +kernel) (pa_cons (pv 0) (pa_cons (pe_bltn (v := .ty "tuple") (by rfl) nb.tup (by decide +kernel) rfl) pa_nil)))))
      (pw_or1 (pt_not (pt_val (pe_callB (cr_all rfl) (by rfl) nb.all (by decide +kernel) (pa_cons
        (pe_lc (own := [("number", 1)]) (g := gName 1) (tt := tYes) rfl scRow.nd (pi_tup (pv 0)) (blkOk_by (N := ["value", "number"]) (sc := defScope sRow) (by decide +kernel))
          (fun _ _ _ _ _ => pg_name (i := 1) scRow.nd rfl (Or.inl rfl)) (fun _ _ _ _ _ => pts_nil) (fun _ _ _ _ _ => pe_cal c1 hr (Nat.le_refl 1) (by rfl) (pa_cons (pv 1) pa_nil))) pa_nil)))))))
      (pss_one (ps_ret pe_bl)) pss_nil)
    (pss_one (ps_ret (pe_or (pe_notT (pv 0)) (pe_one (pe_cmpR op_ne (pe_ix ix_tup (pv 0) (pe_un un_neg pe_int) (fun _ _ => rfl)) pe_int (nomark _)))))), ?_⟩
  walk_at "rd"
  refine ⟨v, rfl, isi hd (isi_tup d) ⟨isTupD d, rfl, ?_⟩⟩
  cases ht : isTupD d with
  | false =>
    have q' := q H (Same.refl H)
    rw [(not_tup ht).1] at q'
    exact iteT (iteT q')
  | true =>
    obtain ⟨p, xs, ds, rfl, rfl, np, hp, hx⟩ := tup_of hd ht
    have hn : xs.length < 100000 := by rw [hx.len]; have := hs.len; omega
    refine iteF (lc_mapT (fun d => V.bl (wholeB d)) rfl hp hx hn (wipe1 _ 1) (fun x d H1 hm s1 dx R k => ?_) fun L H1 s1 nL hL => ?_)
    · exact ⟨x, rfl, a, x, d, _, rfl, dx, hs.mem hm, k⟩
    refine ⟨L, ds.map wholeB, rfl, SqL.of (by rw [List.map_map]; exact hL), _, rfl, ?_⟩
    have q' : Q (.bl ((ds.map wholeB).all id && lastD ds (.int 0))) H1 := q H1 s1
    cases hw : (ds.map wholeB).all id with
    | false => rw [hw] at q'; exact iteT q'
    | true =>
      rw [hw] at q'
      refine iteF ⟨.ref p, rfl, _, .inr (.inl ⟨xs, SqT.of (s1 _ _ hp), rfl⟩), _, rfl, ?_⟩
      rw [empty_iff hx, Bool.not_not]
      cases hds : ds with
      | nil => subst hds; exact iteT q'
      | cons d0 dr =>
        have ne : ds ≠ [] := by rw [hds]; simp
        obtain ⟨x, dl, e1, e2, e3, e4⟩ := last_both hx ne
        obtain ⟨i, rfl, rfl⟩ := int_of e4 (all_mem hw e3)
        refine iteF ⟨.ref p, rfl, 1, rfl, p, xs, -1, .int i, rfl, rfl, SqT.of (s1 _ _ hp), atI_end e1, rfl, ?_⟩
        unfold lastD at q'
        rw [e2] at q'
        rw [dec_int]
        simpa [PyData.eqv] using q'

/-- not value or value[-1] != 0, both ways of saying it: what is asked of the last number -/
theorem end_int {a p : Addr} {H : Hp} {Q : VK} {xs : List V} {ds : List PyData} (hx : DaAll a H xs ds) (hp : H p = some (.tup xs)) (ne : ds ≠ []) (hw : (ds.map wholeB).all id = true)
    (q : Q (.bl (lastD ds (.int 0))) H) : rIxT K (.ref p) (.int (-1)) H fun x H1 => rNe x (.int 0) H1 Q := by
  obtain ⟨x, dl, e1, e2, e3, e4⟩ := last_both hx ne
  obtain ⟨i, rfl, rfl⟩ := int_of e4 (all_mem hw e3)
  refine ⟨p, xs, -1, .int i, rfl, rfl, SqT.of hp, atI_end e1, rfl, ?_⟩
  unfold lastD at q
  rw [e2] at q
  rw [dec_int]
  simpa [PyData.eqv] using q

/-- .. of the last row -/
theorem end_row {a p : Addr} {H : Hp} {Q : VK} {xs : List V} {ds : List PyData} (hx : DaAll a H xs ds) (hp : H p = some (.tup xs)) (ne : ds ≠ []) (hw : (ds.map rowB).all id = true)
    (q : ∀ H', Same H H' → Q (.bl (lastD ds (.tuple []))) H') :
    rIxT K (.ref p) (.int (-1)) H fun x H1 => ([] : List V).length ≤ sizeLine ∧ ∀ t, H1 t = none → rT0 true K x (.ref t) (upd H1 t (.tup [])) Q := by
  obtain ⟨x, dl, e1, e2, e3, e4⟩ := last_both hx ne
  obtain ⟨p2, xs2, ds2, rfl, rfl, np2, hp2, hx2⟩ := tup_of e4 (row_tup (all_mem hw e3))
  refine ⟨p, xs, -1, .ref p2, rfl, rfl, SqT.of hp, atI_end e1, sz (by decide), fun t nt => ?_⟩
  have s2 := same_new (o := .tup []) nt
  refine ⟨p2, t, xs2, [], rfl, rfl, SqT.of (s2 _ _ hp2), SqT.of upd_same, rfl, ?_⟩
  have q' := q _ s2
  unfold lastD at q'
  rw [e2] at q'
  cases hx2 with
  | nil => simpa [PyData.eqv, PyData.eqvAll] using q'
  | cons _ _ => simpa [PyData.eqv, PyData.eqvAll] using q'
theorem scPoly : FnScope ["value", "row"] ["value"] (defScope sPoly) := ⟨rfl, rfl, rfl, by decide +kernel, rfl, by decide +kernel, by decide +kernel⟩
theorem ok_poly (D : Def K mg "is_poly" sPoly ["value"]) (nb : Nb mg) (c1 : Cal P w K mg base "is_row" 2 ["value"] (spB rowB)) : Cal P w K mg base "is_poly" 3 ["value"] (spB polyB) := by
  refine D.ok scPoly (fun vs H Q E h => ?_) (fun f cdv A out s H vs Q E hr h => ?_)
  · obtain ⟨a, v, d, m, rfl, _⟩ := h; rfl
  obtain ⟨a, v, d, m, rfl, hd, hs, q⟩ := h
  refine ⟨_, pss_cons (ps_if (PW.pt (pw_or (pt_not (pt_val (pe_callB (id := "isinstance") (r := rIsi K) call_isi (by rfl) nb.isi (by decide +kernel) (pa_cons (pv 0) (pa_cons (pe_bltn (v := .ty "tuple") (by rfl) nb.tup (by decide +kernel) rfl) pa_nil)))))
      (pw_or1 (pt_not (pt_val (pe_callB (cr_all rfl) (by rfl) nb.all (by decide +kernel) (pa_cons
        (pe_lc (own := [("row", 1)]) (g := gName 1) (tt := tYes) rfl scPoly.nd (pi_tup (pv 0)) (blkOk_by (N := ["value", "row"]) (sc := defScope sPoly) (by decide +kernel))
          (fun _ _ _ _ _ => pg_name (i := 1) scPoly.nd rfl (Or.inl rfl)) (fun _ _ _ _ _ => pts_nil) (fun _ _ _ _ _ => pe_cal c1 hr (Nat.le_refl 2) (by rfl) (pa_cons (pv 1) pa_nil))) pa_nil)))))))
      (pss_one (ps_ret pe_bl)) pss_nil)
    (pss_one (ps_ret (pe_or (pe_notT (pv 0)) (pe_one (pe_cmpR (op_neT0 hr.units) (pe_ix ix_tup (pv 0) (pe_un un_neg pe_int) (fun _ _ => rfl)) (pe_tup pa_nil) (nomark _)))))), ?_⟩
  walk_at "rd"
  refine ⟨v, rfl, isi hd (isi_tup d) ⟨isTupD d, rfl, ?_⟩⟩
  cases ht : isTupD d with
  | false =>
    have q' := q H (Same.refl H)
    rw [(not_tup ht).2] at q'
    exact iteT (iteT q')
  | true =>
    obtain ⟨p, xs, ds, rfl, rfl, np, hp, hx⟩ := tup_of hd ht
    have hn : xs.length < 100000 := by rw [hx.len]; have := hs.len; omega
    refine iteF (lc_mapT (fun d => V.bl (rowB d)) rfl hp hx hn (wipe1 _ 1) (fun x d H1 hm s1 dx R k => ?_) fun L H1 s1 nL hL => ?_)
    · exact ⟨x, rfl, a, x, d, _, rfl, dx, hs.mem hm, k⟩
    refine ⟨L, ds.map rowB, rfl, SqL.of (by rw [List.map_map]; exact hL), _, rfl, ?_⟩
    have q' : ∀ H', Same H H' → Q (.bl ((ds.map rowB).all id && lastD ds (.tuple []))) H' := q
    cases hw : (ds.map rowB).all id with
    | false => rw [hw] at q'; exact iteT (q' _ s1)
    | true =>
      rw [hw] at q'
      refine iteF ⟨.ref p, rfl, _, .inr (.inl ⟨xs, SqT.of (s1 _ _ hp), rfl⟩), _, rfl, ?_⟩
      rw [empty_iff hx, Bool.not_not]
      cases hds : ds with
      | nil => subst hds; exact iteT (q' _ s1)
      | cons d0 dr =>
        have ne : ds ≠ [] := by rw [hds]; simp
        exact iteF ⟨.ref p, rfl, 1, rfl, end_row (hx.same s1) (s1 _ _ hp) ne hw fun H' s2 => q' _ (s1.trans s2)⟩
end
end K25

set_option Elab.async false
set_option linter.all false
set_option maxRecDepth 100000
set_option maxHeartbeats 4000000
local macro_rules | `(tactic| walk_at "rd") => `(tactic| dsimp only [L2.tSeq, L2.tNext, L2.tRet, L2.tRetN, L2.tAsg, L2.gName, L2.tIfS, L2.tDrop, L2.tCons, L2.tNil, L2.tC, L2.tVar, L2.tCB, L2.tAndV, L2.tOrV, L2.tNotV, L2.tB, L2.tTest, L2.tOp, L2.tUn, L2.tNot, L2.tAnd, L2.tOr, L2.tIf, L2.tCall, L2.tTup, L2.tLst, L2.tNotT, L2.tYes, L2.gTup, L2.gCons, L2.gNil, L2.gSub])
namespace K25
open PySem PySem.Spec PyProof.Rows L2 Tw
/-- an int from 0 on below n; the well is turned -/
def spDraw : Sp := fun vs H Q _ => ∃ a n, vs = [.ref a, .int n] ∧ We a H ∧ 0 < n ∧ n < 1073741824 ∧ ∀ d H', 0 ≤ d → d < n → Kp a H H' → We a H' → Q (.int d) H'
theorem kp_well {a : Addr} {H H' : Hp} {o : HO} (h : Kp a H H') : Kp a H (upd H' a o) := fun b u n e => by
  rw [upd_ne n]; exact h b u n e
section
variable {P : Program} {w : World} {K : PySem.W.Frag} {mg : Str → Option Value} {base : Heap}
theorem scDraw : FnScope ["_law_well_here", "_law_many", "_law_figure", "_law_seed"] ["_law_well_here", "_law_many"] (defScope sDraw) := ⟨rfl, rfl, rfl, by decide +kernel, rfl, by decide +kernel, by decide +kernel⟩
theorem ok_draw (D : Def K mg "_law_draw" sDraw ["_law_well_here", "_law_many"]) (nb : Nb mg) : Cal P w K mg base "_law_draw" 1 ["_law_well_here", "_law_many"] spDraw := by
  refine D.ok scDraw (fun vs H Q E h => ?_) (fun f cdv A out s H vs Q E hr h => ?_)
  · obtain ⟨a, n, rfl, _⟩ := h; rfl
  obtain ⟨a, n, rfl, ⟨x, y, z, hw⟩, n0, n1, q⟩ := h
  refine ⟨_, pss_cons (ps_if (pt_cmpR op_gt (pe_ix ix_list (pv 0) pe_int (fun _ _ => rfl)) pe_int (nomark _))
      (pss_cons (ps_asg (pe_callB (id := "divmod") call_divmod (by rfl) nb.dvm (by decide +kernel) (pa_cons (pe_ix ix_list (pv 0) pe_int (fun _ _ => rfl)) (pa_cons (pv 1) pa_nil)))
          (pg_tup rfl (pgs_cons (pg_sub (pv 0) pe_int set_list) (pgs_cons (pg_name (i := 2) scDraw.nd rfl (Or.inl rfl)) pgs_nil))))
        (pss_one (ps_ret (pv 2)))) pss_nil)
    (pss_cons (ps_asg (pe_op op_add (pe_ix ix_list (pv 0) pe_int (fun _ _ => rfl)) pe_int) (pg_sub (pv 0) pe_int set_list))
    (pss_cons (ps_set (i := 3) scDraw.nd rfl (Or.inl rfl) (pe_op op_mod (pe_callTy (T := "int") call_int1 (by rfl) nb.int (by decide +kernel)
        (pa_cons (pe_op op_add (pe_ix ix_list (pv 0) pe_int (fun _ _ => rfl)) (pe_op op_mul pe_int (pe_ix ix_list (pv 0) pe_int (fun _ _ => rfl)))) pa_nil)) pe_int))
    (pss_cons (ps_asg (pe_op op_mod (pe_callTy (T := "int") call_int1 (by rfl) nb.int (by decide +kernel)
        (pa_cons (pe_op op_add (pe_op op_mul (pv 3) (pe_op op_add (pe_op op_mod (pe_callTy (T := "int") call_int1 (by rfl) nb.int (by decide +kernel) (pa_cons (pv 3) pa_nil)) pe_int) pe_int))
          (pe_op op_mul pe_int (pe_ix ix_list (pv 0) pe_int (fun _ _ => rfl)))) pa_nil)) pe_int) (pg_sub (pv 0) pe_int set_list))
    (pss_one (ps_ret (pe_op op_mod (pe_callTy (T := "int") call_int1 (by rfl) nb.int (by decide +kernel) (pa_cons (pe_op op_fdiv (pe_ix ix_list (pv 0) pe_int (fun _ _ => rfl)) pe_int) pa_nil)) (pv 1))))))), ?_⟩
  walk_at "rd"
  refine ⟨.ref a, rfl, a, _, 0, .int x, rfl, rfl, SqL.of hw, rfl, x, 0, rfl, rfl, _, rfl, ite2 (fun c => ?_) (fun c => ?_)⟩
  · refine ⟨.ref a, rfl, a, _, 0, .int x, rfl, rfl, SqL.of hw, rfl, .int n, rfl, x, n, rfl, ⟨n0, n1⟩, fun t nt => ?_⟩
    have ta : t ≠ a := (show We a H from ⟨x, y, z, hw⟩).ne nt
    have h1 : upd H t (.tup [.int (x / n), .int (x % n)]) a = some (.lst [.int x, .int y, .int z]) := by rw [upd_ne ta.symm]; exact hw
    refine ⟨t, _, rfl, SqT.of upd_same, rfl, .int (x / n), _, rfl, .ref a, rfl, a, _, 0, 0, rfl, rfl, h1, rfl, .int (x % n), _, rfl, ⟨rfl, .int (x % n), rfl, ?_⟩⟩
    refine q _ _ (Int.emod_nonneg _ (by omega)) (Int.emod_lt_of_pos _ n0) (kp_well (kp_new nt)) ⟨x / n, y, z, upd_same⟩
  · refine ⟨.ref a, rfl, a, _, 2, .int z, rfl, rfl, SqL.of hw, rfl, z, 1, rfl, rfl, .ref a, rfl, a, _, 2, 2, rfl, rfl, hw, rfl, ?_⟩
    generalize hH1 : upd H a _ = H1
    have w1 : H1 a = some (.lst [.int x, .int y, .int (z + 1)]) := by rw [← hH1]; exact upd_same
    have k1 : Kp a H H1 := by rw [← hH1]; exact kp_well (Kp.refl a H)
    refine ⟨.ref a, rfl, a, _, 1, .int y, rfl, rfl, SqL.of w1, rfl, .ref a, rfl, a, _, 2, .int (z + 1), rfl, rfl, SqL.of w1, rfl, _, _, rfl, rfl, .inl ⟨by decide, by decide⟩, _, _, rfl, rfl, .inl ⟨_, rfl, _, _, rfl, rfl, (by show (0 : Int) < _; decide), ?_⟩⟩
    walk_at "rd"
    generalize hs : (_ : Int) % 2147483563 = sd
    have s0 : 0 ≤ sd := by rw [← hs]; exact Int.emod_nonneg _ (by decide)
    have s1 : sd < 2147483563 := by rw [← hs]; exact Int.emod_lt_of_pos _ (by decide)
    refine ⟨.int sd, rfl, .int sd, rfl, .inl ⟨sd, rfl, _, _, rfl, rfl, (by show (0 : Int) < _; decide), _, _, rfl, rfl, _, _, rfl, rfl, .inl ⟨by omega, by omega⟩, .ref a, rfl, a, _, 2, .int (z + 1), rfl, rfl, SqL.of w1, rfl, _, _, rfl, rfl, .inl ⟨by decide, by decide⟩, _, _, rfl, rfl, .inl ⟨_, rfl, _, _, rfl, rfl, (by show (0 : Int) < _; decide), ?_⟩⟩⟩
    walk_at "rd"
    refine ⟨.ref a, rfl, a, _, 1, 1, rfl, rfl, w1, rfl, ?_⟩
    generalize hy : (_ : Int) % 2147483563 = y2
    generalize hH2 : upd H1 a _ = H2
    have w2 : H2 a = some (.lst [.int x, .int y2, .int (z + 1)]) := by rw [← hH2]; exact upd_same
    have k2 : Kp a H H2 := by rw [← hH2]; exact kp_well k1
    refine ⟨.ref a, rfl, a, _, 1, .int y2, rfl, rfl, SqL.of w2, rfl, _, _, rfl, rfl, ⟨by decide, by decide⟩, .inl ⟨_, rfl, .int n, rfl, _, _, rfl, rfl, n0, ?_⟩⟩
    exact q _ _ (Int.emod_nonneg _ (by omega)) (Int.emod_lt_of_pos _ n0) k2 ⟨x, y2, z + 1, w2⟩

end
end K25

set_option Elab.async false
set_option linter.all false
set_option maxRecDepth 100000
set_option maxHeartbeats 4000000
local macro_rules | `(tactic| walk_at "rd") => `(tactic| dsimp only [L2.tSeq, L2.tNext, L2.tRet, L2.tRetN, L2.tAsg, L2.gName, L2.tIfS, L2.tDrop, L2.tCons, L2.tNil, L2.tC, L2.tVar, L2.tCB, L2.tAndV, L2.tOrV, L2.tNotV, L2.tB, L2.tTest, L2.tOp, L2.tUn, L2.tNot, L2.tAnd, L2.tOr, L2.tIf, L2.tCall, L2.tTup, L2.tLst, L2.tNotT, L2.tYes, L2.gTup, L2.gCons, L2.gNil, L2.gSub, L2.tBM0, L2.tBM, L2.tWhile, L2.tFor, L2.iRng1])
namespace K25
open PySem PySem.Spec PyProof.Rows L2 Tw
/-- data that may be compared, at most n deep -/
def Nice (n : Nat) (d : PyData) : Prop := d.canLay0 = true ∧ d.depth ≤ n
theorem canAll {ds : List PyData} (h : ∀ d ∈ ds, d.canLay0 = true) : PyData.canLayAll0 ds = true := by
  induction ds with
  | nil => simp [PyData.canLayAll0]
  | cons d ds ih => simp only [PyData.canLayAll0, h d (by simp), ih fun e he => h e (by simp [he]), Bool.and_self]
theorem depAll {n : Nat} {ds : List PyData} (h : ∀ d ∈ ds, d.depth ≤ n) : PyData.depthAll ds ≤ n := by
  induction ds with
  | nil => simp [PyData.depthAll]
  | cons d ds ih =>
    simp only [PyData.depthAll]
    exact Nat.max_le.mpr ⟨h d (by simp), ih fun e he => h e (by simp [he])⟩
theorem nice_tup {n : Nat} {ds : List PyData} (h : ∀ d ∈ ds, Nice n d) : Nice (n + 1) (.tuple ds) :=
  ⟨by simp only [PyData.canLay0]; exact canAll fun d hd => (h d hd).1, by simp only [PyData.depth]; exact Nat.succ_le_succ (depAll fun d hd => (h d hd).2)⟩
theorem nice_lst {n : Nat} {ds : List PyData} (h : ∀ d ∈ ds, Nice n d) : Nice (n + 1) (.list ds) :=
  ⟨by simp only [PyData.canLay0]; exact canAll fun d hd => (h d hd).1, by simp only [PyData.depth]; exact Nat.succ_le_succ (depAll fun d hd => (h d hd).2)⟩
theorem nice_int (i : Int) : Nice 0 (.int i) := ⟨by simp [PyData.canLay0], by simp [PyData.depth]⟩
theorem Nice.up {n m : Nat} {d : PyData} (h : Nice n d) (l : n ≤ m) : Nice m d := ⟨h.1, Nat.le_trans h.2 l⟩
theorem Nice.shaped {n : Nat} {d : PyData} (h : Nice n d) (l : n ≤ 64) : SeqAt.shaped d = true := by
  unfold SeqAt.shaped
  rw [h.1, decide_eq_true (Nat.le_trans h.2 l)]; rfl
/-- a first part of the list, as a tuple -/
def zD (d : PyData) : Bool := PyData.eqv d (.int 0) || PyData.eqv d (.tuple [])
def spTrim : Sp := fun vs H Q _ => ∃ a p xs ds, vs = [.ref p] ∧ H p = some (.lst xs) ∧ DaAll a H xs ds ∧ (∀ d ∈ ds, Nice 5 d) ∧
  ∀ (k : Nat) q H', k ≤ xs.length → (∀ (i : Nat) d, k ≤ i → ds[i]? = some d → zD d = true) → (k = 0 ∨ ∃ d, ds[k - 1]? = some d ∧ zD d = false) → Same H H' → H q = none → H' q = some (.tup (xs.take k)) → Q (.ref q) H'
section
variable {P : Program} {w : World} {K : PySem.W.Frag} {mg : Str → Option Value} {base : Heap}
theorem take_cases {xs : List V} {m : Nat} (h : m ≤ xs.length) : xs.take m = [] ∧ m = 0 ∨ ∃ j y, m = j + 1 ∧ xs[j]? = some y ∧ xs.take m = xs.take j ++ [y] := by
  cases m with
  | zero => exact .inl ⟨rfl, rfl⟩
  | succ j =>
    have hj : j < xs.length := by omega
    refine .inr ⟨j, xs[j], rfl, List.getElem?_eq_getElem hj, ?_⟩
    rw [List.take_add_one, List.getElem?_eq_getElem hj]; rfl
theorem scTrim : FnScope ["_law_some_here", "_law_made"] ["_law_some_here"] (defScope sTrim) := ⟨rfl, rfl, rfl, by decide +kernel, rfl, by decide +kernel, by decide +kernel⟩
theorem ok_trim (D : Def K mg "_law_trim" sTrim ["_law_some_here"]) (nb : Nb mg) : Cal P w K mg base "_law_trim" 1 ["_law_some_here"] spTrim := by
  refine D.ok scTrim (fun vs H Q E h => ?_) (fun f cdv A out s H vs Q E hr h => ?_)
  · obtain ⟨a, p, xs, ds, rfl, _⟩ := h; rfl
  obtain ⟨a, p, xs, ds, rfl, hp, hd, hn, q⟩ := h
  refine ⟨_, pss_cons (ps_set (i := 1) scTrim.nd rfl (Or.inl rfl) (pe_callTy (T := "list") call_list_of (by rfl) nb.lst (by decide +kernel) (pa_cons (pv 0) pa_nil)))
    (pss_cons (ps_while PassesOwn.never (PW.pt (pw_and (pt_cmpR (op_neD hr.units) (pv 1) (pe_lst pa_nil) (nomark _)) (pw_and1 (PW.pt (pw_or
        (pt_cmpR (op_eqD hr.units) (pe_ix ix_list (pv 1) (pe_un un_neg pe_int) (fun _ _ => rfl)) pe_int (nomark _))
        (pw_or1 (pt_cmpR (op_eqD hr.units) (pe_ix ix_list (pv 1) (pe_un un_neg pe_int) (fun _ _ => rfl)) (pe_tup pa_nil) (nomark _))))))))
      (pss_one (ps_expr (pe_bm0 PySem.F.plainAttrs_list PySem.F.slot_list_pop PySem.F.type_list_pop mt_pop (pv 1)))))
    (pss_one (ps_ret (pe_callTy (T := "tuple") call_tuple_of (by rfl) nb.tup (by decide +kernel) (pa_cons (pv 1) pa_nil))))), ?_⟩
  walk_at "rd"
  refine ⟨.ref p, rfl, p, xs, rfl, .inl (SqL.of hp), fun L nL => ?_⟩
  have go : ∀ (m : Nat) (H' : Hp), m ≤ xs.length → (∀ (i : Nat) d, m ≤ i → ds[i]? = some d → zD d = true) → (m = 0 ∨ ∃ d, ds[m - 1]? = some d ∧ zD d = false) → Same H H' → H' L = some (.lst (xs.take m)) → ∀ t, H' t = none → Q (.ref t) (upd H' t (.tup (xs.take m))) := fun m H' hm hz hb s1 hL t nt =>
    q m t _ hm hz hb (s1.trans (same_new nt)) (s1.free nt) upd_same
  have hz0 : ∀ (i : Nat) d, xs.length ≤ i → ds[i]? = some d → zD d = true := by
    intro i d hi e
    rw [hd.len] at hi
    rw [List.getElem?_eq_none hi] at e
    cases e
  refine ⟨fun m σ H' => m ≤ xs.length ∧ (∀ (i : Nat) d, m ≤ i → ds[i]? = some d → zD d = true) ∧ σ = [some (.ref p), some (.ref L)] ∧ Same H H' ∧ H' L = some (.lst (xs.take m)), ⟨xs.length, Nat.le_refl _, hz0, rfl, same_new nL, by rw [upd_same, List.take_length]⟩, ?_⟩
  rintro m σ H1 ⟨hm, hz, rfl, s1, hL⟩
  refine ⟨.ref L, rfl, sz (by decide), fun t nt => ?_⟩
  have s2 := same_new (o := .lst []) nt
  have dL : DaAll a H1 (xs.take m) (ds.take m) := (hd.same s1).take m
  have nA : ∀ d ∈ ds.take m, Nice 5 d := fun d h => hn d (List.mem_of_mem_take h)
  refine ⟨.list (ds.take m), .list [], .lst (SqL.of (s2 _ _ hL)) ((dL.same s2).dp (canAll fun d h => (nA d h).1)), .lst (SqL.of upd_same) .nil, (nice_lst nA).shaped (by decide), by decide, _, rfl, ?_⟩
  rcases take_cases hm with ⟨e0, rfl⟩ | ⟨j, y, rfl, ey, et⟩
  · have ed : ds.take 0 = [] := rfl
    rw [ed]
    refine iteF ?_
    refine ⟨.ref L, rfl, L, xs.take 0, rfl, .inl ⟨SqL.of (s2 _ _ hL), fun t2 nt2 => ?_⟩⟩
    exact go 0 _ hm hz (.inl rfl) (s1.trans s2) (s2 _ _ hL) t2 nt2
  · obtain ⟨d, e1, e2⟩ := hd.get ey
    have em : ds.take (j + 1) = ds.take j ++ [d] := by rw [List.take_add_one, e1]; rfl
    have ne : (!PyData.eqv (.list (ds.take (j + 1))) (.list [])) = true := by
      rw [em]
      cases ds.take j <;> simp [PyData.eqv, PyData.eqvAll]
    rw [ne]
    have nd : Nice 5 d := hn d (List.mem_of_getElem? e1)
    have at1 : atI (xs.take (j + 1)) (-1) = some y := by rw [et]; exact atI_last _ _
    have pop : ∀ H2 : Hp, zD d = true → Same H1 H2 → ∃ N : L2.St → Hp → Prop, (∀ σ' H', N σ' H' → ∃ m', m' < j + 1 ∧ m' ≤ xs.length ∧ (∀ (i : Nat) d, m' ≤ i → ds[i]? = some d → zD d = true) ∧ σ' = [some (.ref p), some (.ref L)] ∧ Same H H' ∧ H' L = some (.lst (xs.take m'))) ∧
        ∃ v, [some (V.ref p), some (V.ref L)][1]? = some (some v) ∧ tyV K "list" v H2 ∧ rPop v [] H2 fun _ H3 => N [some (.ref p), some (.ref L)] H3 := fun H2 zd s3 => by
      refine ⟨fun σ' H' => σ' = [some (.ref p), some (.ref L)] ∧ Same H H' ∧ H' L = some (.lst (xs.take j)), fun σ' H' h => ⟨j, by omega, by omega, fun i e hi he => by
        rcases Nat.lt_or_eq_of_le hi with z | z
        · exact hz i e z he
        · subst z; rw [e1] at he; cases he; exact zd, h.1, h.2.1, h.2.2⟩, .ref L, rfl, .inl ⟨rfl, _, SqL.of (s3 _ _ hL)⟩, ?_⟩
      refine ⟨L, xs.take (j + 1), y, rfl, rfl, s3 _ _ hL, ?_, rfl, same_upd (s1.trans s3) nL, ?_⟩
      · exact getLast_get (by rw [et]; simp)
      · rw [upd_same, et, List.dropLast_concat]
    refine iteT ⟨.ref L, rfl, 1, rfl, L, xs.take (j + 1), -1, y, rfl, rfl, SqL.of (s2 _ _ hL), at1, d, .int 0, (e2.same (s1.trans s2)).dp nd.1, .int 0, nd.shaped (by decide), by decide, _, rfl, ?_⟩
    cases c1 : PyData.eqv d (.int 0) with
    | true => exact iteT (iteT (pop _ (by unfold zD; rw [c1]; rfl) s2))
    | false =>
      refine iteF ⟨.ref L, rfl, 1, rfl, L, xs.take (j + 1), -1, y, rfl, rfl, SqL.of (s2 _ _ hL), at1, sz (by decide), fun t3 nt3 => ?_⟩
      have s3 := s2.trans (same_new (o := .tup []) nt3)
      refine ⟨d, .tuple [], (e2.same (s1.trans s3)).dp nd.1, .tup (SqT.of upd_same) .nil, nd.shaped (by decide), by decide, _, rfl, ?_⟩
      cases c2 : PyData.eqv d (.tuple []) with
      | true => exact iteT (pop _ (by unfold zD; rw [c1, c2]; rfl) s3)
      | false =>
        refine iteF ⟨.ref L, rfl, L, xs.take (j + 1), rfl, .inl ⟨SqL.of (s3 _ _ hL), fun t2 nt2 => ?_⟩⟩
        exact go (j + 1) _ hm hz (.inr ⟨d, e1, by unfold zD; rw [c1, c2]; rfl⟩) (s1.trans s3) (s3 _ _ hL) t2 nt2

end
end K25

set_option Elab.async false
set_option linter.all false
set_option maxRecDepth 100000
set_option maxHeartbeats 4000000
/-! rows and polys in memory -/
namespace K25
open PySem PySem.Spec PyProof.Rows L2 Tw
/-- tuples are kept -/
def Kt (H H' : Hp) : Prop := ∀ b xs, H b = some (.tup xs) → H' b = some (.tup xs)
theorem Kt.of {H H' : Hp} (s : Same H H') : Kt H H' := fun b xs e => s b _ e
theorem Kt.trans {H H1 H2 : Hp} (x : Kt H H1) (y : Kt H1 H2) : Kt H H2 := fun b xs e => y b xs (x b xs e)
theorem kt_kp {a : Addr} {H H' : Hp} (w : We a H) (k : Kp a H H') : Kt H H' := fun b xs e => k b _ (fun z => by
  obtain ⟨x, y, c, h⟩ := w
  rw [z, h] at e; cases e) e
theorem kt_upd {L : Addr} {H : Hp} {ys : List V} {o : HO} (h : H L = some (.lst ys)) : Kt H (upd H L o) := fun b xs e => by
  rw [upd_ne (fun z => by rw [z, h] at e; cases e)]; exact e
def Ro (H : Hp) (v : V) (r : List Int) : Prop := ∃ p, v = .ref p ∧ H p = some (.tup (r.map V.int))
theorem Ro.kt {H H' : Hp} {v : V} {r : List Int} (k : Kt H H') (h : Ro H v r) : Ro H' v r := by
  obtain ⟨p, e, f⟩ := h
  exact ⟨p, e, k _ _ f⟩
def RoA (H : Hp) (xs : List V) (rs : List (List Int)) : Prop := xs.length = rs.length ∧ ∀ (i : Nat) v, xs[i]? = some v → ∃ r, rs[i]? = some r ∧ Ro H v r
theorem RoA.kt {H H' : Hp} {v : List V} {r : List (List Int)} (k : Kt H H') (h : RoA H v r) : RoA H' v r :=
  ⟨h.1, fun i v e => let ⟨r, e1, e2⟩ := h.2 i v e; ⟨r, e1, e2.kt k⟩⟩
def Po (H : Hp) (v : V) (p : List (List Int)) : Prop := ∃ q xs, v = .ref q ∧ H q = some (.tup xs) ∧ RoA H xs p
theorem Po.kt {H H' : Hp} {v : V} {r : List (List Int)} (k : Kt H H') (h : Po H v r) : Po H' v r := by
  obtain ⟨q, xs, e, f, g⟩ := h
  exact ⟨q, xs, e, k _ _ f, g.kt k⟩
theorem RoA.nil (H : Hp) : RoA H [] [] := ⟨rfl, fun i v e => by simp at e⟩
theorem RoA.snoc {H : Hp} {xs : List V} {rs : List (List Int)} {v : V} {r : List Int} (h : RoA H xs rs) (g : Ro H v r) : RoA H (xs ++ [v]) (rs ++ [r]) := by
  obtain ⟨h1, h2⟩ := h
  refine ⟨by simp [h1], fun i u e => ?_⟩
  rcases Nat.lt_trichotomy i xs.length with c | c | c
  · rw [List.getElem?_append_left c] at e
    obtain ⟨r', e1, e2⟩ := h2 i u e
    exact ⟨r', by rw [List.getElem?_append_left (by omega)]; exact e1, e2⟩
  · subst c
    rw [List.getElem?_append_right (Nat.le_refl _), Nat.sub_self] at e
    cases e
    refine ⟨r, ?_, g⟩
    rw [h1, List.getElem?_append_right (Nat.le_refl _), Nat.sub_self]
    rfl
  · rw [List.getElem?_eq_none (by simp; omega)] at e
    cases e
theorem RoA.take {H : Hp} {xs : List V} {rs : List (List Int)} (k : Nat) (h : RoA H xs rs) : RoA H (xs.take k) (rs.take k) := by
  refine ⟨by rw [List.length_take, List.length_take, h.1], fun i v e => ?_⟩
  rw [List.getElem?_take] at e ⊢
  split at e
  · rw [if_pos ‹_›]; exact h.2 i v e
  · cases e
theorem RoA.set {H : Hp} {xs : List V} {rs : List (List Int)} {v : V} {r : List Int} (k : Nat) (h : RoA H xs rs) (g : Ro H v r) : RoA H (xs.set k v) (rs.set k r) := by
  refine ⟨by rw [List.length_set, List.length_set, h.1], fun i u e => ?_⟩
  rw [List.getElem?_set] at e ⊢
  rw [← h.1]
  split at e
  · rw [if_pos ‹_›]
    split at e
    · rw [if_pos ‹_›]; cases e; exact ⟨r, rfl, g⟩
    · cases e
  · rw [if_neg ‹_›]; exact h.2 i u e
theorem RoA.get {H : Hp} {xs : List V} {rs : List (List Int)} {k : Nat} (h : RoA H xs rs) (hk : k < rs.length) : ∃ v, xs[k]? = some v ∧ Ro H v rs[k] := by
  have hx : k < xs.length := by rw [h.1]; exact hk
  obtain ⟨r, e1, e2⟩ := h.2 k xs[k] (List.getElem?_eq_getElem hx)
  rw [List.getElem?_eq_getElem hk] at e1
  cases e1
  exact ⟨_, List.getElem?_eq_getElem hx, e2⟩
/-! as data -/
def rowD (ns : List Int) : PyData := .tuple (ns.map PyData.int)
def polyD (p : List (List Int)) : PyData := .tuple (p.map rowD)
theorem da_ints (a : Addr) (H : Hp) : ∀ ns : List Int, DaAll a H (ns.map V.int) (ns.map PyData.int)
  | [] => .nil
  | n :: ns => .cons (.int n) (da_ints a H ns)
theorem We.nt {a p : Addr} {H : Hp} {xs : List V} (w : We a H) (h : H p = some (.tup xs)) : p ≠ a := fun z => by
  obtain ⟨x, y, c, e⟩ := w
  rw [z, e] at h; cases h
theorem da_row {a : Addr} {H : Hp} {v : V} {r : List Int} (w : We a H) (h : Ro H v r) : Da a H v (rowD r) := by
  obtain ⟨p, rfl, e⟩ := h
  exact .tup (We.nt w e) e (da_ints a H r)
theorem das_rows {a : Addr} {H : Hp} (w : We a H) : ∀ {xs : List V} {rs : List (List Int)}, RoA H xs rs → DaAll a H xs (rs.map rowD)
  | [], [], _ => .nil
  | [], r :: rs, h => by have := h.1; simp at this
  | x :: xs, [], h => by have := h.1; simp at this
  | x :: xs, r :: rs, h => by
    obtain ⟨r', e1, e2⟩ := h.2 0 x rfl
    cases e1
    refine .cons (da_row w e2) (das_rows w ⟨by have := h.1; simpa using this, fun i v e => ?_⟩)
    obtain ⟨r', e1, e2⟩ := h.2 (i + 1) v (by simpa using e)
    exact ⟨r', by simpa using e1, e2⟩
theorem da_poly {a : Addr} {H : Hp} {v : V} {p : List (List Int)} (w : We a H) (h : Po H v p) : Da a H v (polyD p) := by
  obtain ⟨q, xs, rfl, e, g⟩ := h
  exact .tup (We.nt w e) e (das_rows w g)
theorem nice_row (ns : List Int) : Nice 1 (rowD ns) := nice_tup fun d hd => by
  obtain ⟨i, _, rfl⟩ := List.mem_map.mp hd
  exact nice_int i
theorem nice_poly (p : List (List Int)) : Nice 2 (polyD p) := nice_tup fun d hd => by
  obtain ⟨i, _, rfl⟩ := List.mem_map.mp hd
  exact nice_row i
theorem zD_int (c : Int) : zD (.int c) = (c == 0) := by
  unfold zD
  simp [PyData.eqv]
theorem zD_row (r : List Int) : zD (rowD r) = r.isEmpty := by
  unfold zD rowD
  cases r <;> simp [PyData.eqv, PyData.eqvAll]
theorem rowB_ok {r : List Int} (h : okR r) : rowB (rowD r) = true := by
  unfold rowD rowB
  rw [Bool.and_eq_true]
  refine ⟨List.all_eq_true.mpr fun b hb => ?_, ?_⟩
  · rw [List.map_map] at hb
    obtain ⟨i, _, rfl⟩ := List.mem_map.mp hb
    rfl
  · unfold lastD
    rw [List.getLast?_map]
    cases e : r.getLast? with
    | none => rfl
    | some c => simpa [PyData.eqv] using h c e
theorem polyB_ok {p : List (List Int)} (h : okP p) : polyB (polyD p) = true := by
  unfold polyD polyB
  rw [Bool.and_eq_true]
  refine ⟨List.all_eq_true.mpr fun b hb => ?_, ?_⟩
  · rw [List.map_map] at hb
    obtain ⟨r, hr, rfl⟩ := List.mem_map.mp hb
    exact rowB_ok (h.1 r hr)
  · unfold lastD
    rw [List.getLast?_map]
    cases e : p.getLast? with
    | none => rfl
    | some r =>
      have := h.2 r e
      cases r with
      | nil => exact absurd rfl this
      | cons _ _ => simp [rowD, PyData.eqv, PyData.eqvAll]
theorem sm_row {n : Nat} {r : List Int} (h : r.length ≤ n) : Sm 1 n (rowD r) := sm_tup (by rw [List.length_map]; exact h) fun d hd => by
  obtain ⟨i, _, rfl⟩ := List.mem_map.mp hd
  exact sm_int _ _ i
theorem sm_poly {n b : Nat} {p : List (List Int)} (h : Bd n b p) : Sm 2 n (polyD p) := sm_tup (by rw [List.length_map]; exact h.1) fun d hd => by
  obtain ⟨r, hr, rfl⟩ := List.mem_map.mp hd
  exact sm_row (h.2 r hr).1
/-! trims -/
/-- a list of ints, a list of rows: without its last zeros -/
def spTrimI : Sp := fun vs H Q _ => ∃ p l, vs = [.ref p] ∧ H p = some (.lst (l.map V.int)) ∧ ∀ v H', Same H H' → Ro H' v (trimI l) → Q v H'
def spTrimP : Sp := fun vs H Q _ => ∃ p xs rs, vs = [.ref p] ∧ H p = some (.lst xs) ∧ RoA H xs rs ∧ (∃ a, We a H) ∧ ∀ v H', Same H H' → Po H' v (trimP rs) → Q v H'
theorem trim_int (vs : List V) (H : Hp) (Q : VK) (E : XK) (h : spTrimI vs H Q E) : spTrim vs H Q E := by
  obtain ⟨p, l, rfl, hp, q⟩ := h
  refine ⟨0, p, _, _, rfl, hp, da_ints 0 H l, fun d hd => ?_, fun k t H' hk hz hb s n e => q _ H' s ⟨t, rfl, ?_⟩⟩
  · obtain ⟨i, _, rfl⟩ := List.mem_map.mp hd
    exact (nice_int i).up (by decide)
  · rw [e, ← List.map_take]
    congr 3
    refine (trimBy_take _ l k (by simpa using hk) (fun i c hi ec => ?_) ?_).symm
    · have := hz i (.int c) hi (by rw [List.getElem?_map, ec]; rfl)
      rwa [zD_int] at this
    · rcases hb with hb | ⟨d, e1, e2⟩
      · exact .inl hb
      · rw [List.getElem?_map] at e1
        cases ec : l[k - 1]? with
        | none => rw [ec] at e1; cases e1
        | some c =>
          rw [ec] at e1; cases e1
          rw [zD_int] at e2
          exact .inr ⟨c, rfl, e2⟩
theorem trim_rows (vs : List V) (H : Hp) (Q : VK) (E : XK) (h : spTrimP vs H Q E) : spTrim vs H Q E := by
  obtain ⟨p, xs, rs, rfl, hp, hr, ⟨a, w⟩, q⟩ := h
  refine ⟨a, p, _, _, rfl, hp, das_rows w hr, fun d hd => ?_, fun k t H' hk hz hb s n e => q _ H' s ?_⟩
  · obtain ⟨i, _, rfl⟩ := List.mem_map.mp hd
    exact (nice_row i).up (by decide)
  · have : trimP rs = rs.take k := by
      refine trimBy_take _ rs k (by rw [← hr.1]; exact hk) (fun i c hi ec => ?_) ?_
      · have := hz i (rowD c) hi (by rw [List.getElem?_map, ec]; rfl)
        rwa [zD_row] at this
      · rcases hb with hb | ⟨d, e1, e2⟩
        · exact .inl hb
        · rw [List.getElem?_map] at e1
          cases ec : rs[k - 1]? with
          | none => rw [ec] at e1; cases e1
          | some c =>
            rw [ec] at e1; cases e1
            rw [zD_row] at e2
            exact .inr ⟨c, rfl, e2⟩
    rw [this]
    exact ⟨t, _, rfl, e, (hr.kt (Kt.of s)).take k⟩
end K25

set_option Elab.async false
set_option linter.all false
set_option maxRecDepth 100000
set_option maxHeartbeats 4000000
local macro_rules | `(tactic| walk_at "rd") => `(tactic| dsimp only [L2.tSeq, L2.tNext, L2.tRet, L2.tRetN, L2.tAsg, L2.gName, L2.tIfS, L2.tDrop, L2.tCons, L2.tNil, L2.tC, L2.tVar, L2.tCB, L2.tAndV, L2.tOrV, L2.tNotV, L2.tB, L2.tTest, L2.tOp, L2.tUn, L2.tNot, L2.tAnd, L2.tOr, L2.tIf, L2.tCall, L2.tTup, L2.tLst, L2.tNotT, L2.tYes, L2.gTup, L2.gCons, L2.gNil, L2.gSub, L2.tBM0, L2.tBM, L2.tWhile, L2.tFor, L2.iRng1])
namespace K25
open PySem PySem.Spec PyProof.Rows L2 Tw
def spInt : Sp := fun vs H Q _ => ∃ a, vs = [.ref a] ∧ We a H ∧ ∀ (i : Int) H', i.natAbs ≤ 500000 → Kp a H H' → We a H' → Q (.int i) H'
def spRowM : Sp := fun vs H Q _ => ∃ a n, vs = [.ref a, .int n] ∧ We a H ∧ 0 ≤ n ∧ n ≤ 100 ∧ ∀ v ns H', Kp a H H' → We a H' → Ro H' v ns → okR ns → (ns.length : Int) ≤ n → (∀ c ∈ ns, c.natAbs ≤ 500000) → Q v H'
def spPolyM : Sp := fun vs H Q _ => ∃ a n, vs = [.ref a, .int n] ∧ We a H ∧ 0 < n ∧ n ≤ 100 ∧ ∀ v rs H', Kp a H H' → We a H' → Po H' v rs → okP rs → (∀ k : Nat, n ≤ k → Bd k 500000 rs) → Q v H'
section
variable {P : Program} {w : World} {K : PySem.W.Frag} {mg : Str → Option Value} {base : Heap}
theorem scNum : FnScope ["_law_well_here"] ["_law_well_here"] (defScope sNum) := ⟨rfl, rfl, rfl, by decide +kernel, rfl, by decide +kernel, by decide +kernel⟩
theorem ok_num (D : Def K mg "_law_number" sNum ["_law_well_here"]) (c1 : Cal P w K mg base "_law_draw" 1 ["_law_well_here", "_law_many"] spDraw) : Cal P w K mg base "_law_number" 2 ["_law_well_here"] spInt := by
  refine D.ok scNum (fun vs H Q E h => ?_) (fun f cdv A out s H vs Q E hr h => ?_)
  · obtain ⟨a, rfl, _⟩ := h; rfl
  obtain ⟨a, rfl, hw, q⟩ := h
  refine ⟨_, pss_cons (ps_if (pt_cmpR op_eq (pe_cal c1 hr (Nat.le_refl 1) (by rfl) (pa_cons (pv 0) (pa_cons pe_int pa_nil))) pe_int (nomark _))
      (pss_one (ps_ret (pe_op op_sub (pe_cal c1 hr (Nat.le_refl 1) (by rfl) (pa_cons (pv 0) (pa_cons (pe_op op_pow pe_int pe_int) pa_nil))) pe_int))) pss_nil)
    (pss_one (ps_ret (pe_op op_sub (pe_cal c1 hr (Nat.le_refl 1) (by rfl) (pa_cons (pv 0) (pa_cons pe_int pa_nil))) pe_int))), ?_⟩
  walk_at "rd"
  refine ⟨.ref a, rfl, a, _, rfl, hw, by decide, by decide, fun d H1 d0 d1 k1 w1 => ?_⟩
  refine ⟨rfl, _, rfl, ite2 (fun c => ?_) (fun c => ?_)⟩
  · refine ⟨.ref a, rfl, 10, 6, rfl, rfl, ⟨by decide, by decide, by decide⟩, a, _, rfl, w1, by decide, by decide, fun d2 H2 e0 e1 k2 w2 => ?_⟩
    exact ⟨d2, _, rfl, rfl, q _ _ (by first | omega | (have e2 : d2 < 1000000 := e1; omega)) (k1.trans k2) w2⟩
  · refine ⟨.ref a, rfl, a, _, rfl, w1, by decide, by decide, fun d2 H2 e0 e1 k2 w2 => ?_⟩
    exact ⟨d2, _, rfl, rfl, q _ _ (by first | omega | (have e2 : d2 < 1000000 := e1; omega)) (k1.trans k2) w2⟩
theorem scLRow : FnScope ["_law_well_here", "_law_many", "_law_made", "_law_k"] ["_law_well_here", "_law_many"] (defScope sLRow) := ⟨rfl, rfl, rfl, by decide +kernel, rfl, by decide +kernel, by decide +kernel⟩
theorem ok_lrow (D : Def K mg "_law_row" sLRow ["_law_well_here", "_law_many"]) (nb : Nb mg) (c1 : Cal P w K mg base "_law_draw" 1 ["_law_well_here", "_law_many"] spDraw)
    (c2 : Cal P w K mg base "_law_number" 2 ["_law_well_here"] spInt) (c3 : Cal P w K mg base "_law_trim" 1 ["_law_some_here"] spTrimI) : Cal P w K mg base "_law_row" 3 ["_law_well_here", "_law_many"] spRowM := by
  refine D.ok scLRow (fun vs H Q E h => ?_) (fun f cdv A out s H vs Q E hr h => ?_)
  · obtain ⟨a, n, rfl, _⟩ := h; rfl
  obtain ⟨a, n, rfl, hw, n0, n1, q⟩ := h
  refine ⟨_, pss_cons (ps_set (i := 2) scLRow.nd rfl (Or.inl rfl) (pe_lst pa_nil))
    (pss_cons (ps_for PassesOwn.never rfl (pi_range1 (by rfl) nb.rng (pa_cons (pe_cal c1 hr (by decide) (by rfl) (pa_cons (pv 0) (pa_cons (pe_op op_add (pv 1) pe_int) pa_nil))) pa_nil))
        (pg_name (i := 3) scLRow.nd rfl (Or.inl rfl))
        (pss_one (ps_expr (pe_bm PySem.F.plainAttrs_list PySem.F.slot_list_append PySem.F.type_list_append mt_append (pv 2) (pa_cons (pe_cal c2 hr (by decide) (by rfl) (pa_cons (pv 0) pa_nil)) pa_nil)))))
    (pss_one (ps_ret (pe_cal c3 hr (by decide) (by rfl) (pa_cons (pv 2) pa_nil))))), ?_⟩
  walk_at "rd"
  refine ⟨sz (by decide), fun L nL => ?_⟩
  have La : L ≠ a := hw.ne nL
  have w0 := we_new (o := .lst []) hw nL
  have k0 : Kp a H (upd H L (.lst [])) := kp_new nL
  refine ⟨.ref a, rfl, .int n, rfl, n, 1, rfl, rfl, a, _, rfl, w0, by omega, by omega, fun d H1 d0 d1 k1 w1 => ?_⟩
  refine ⟨d, rfl, by omega, by omega, for_rng (lo := 0) (n := d.toNat) (fun i σ H' => ∃ (x3 : Option V) (ns : List Int), σ = [some (.ref a), some (.int n), some (.ref L), x3] ∧ Kp a H H' ∧ We a H' ∧ H' L = some (.lst (ns.map V.int)) ∧ ns.length = i ∧ ∀ c ∈ ns, c.natAbs ≤ 500000) ?_ ?_ ?_⟩
  · exact ⟨none, [], rfl, k0.trans k1, w1, k1 _ _ La upd_same, rfl, fun c hc => by cases hc⟩
  · rintro i σ H2 hi ⟨x3, ns, rfl, k2, w2, e2, l2, b2⟩
    walk_at "rd"
    refine ⟨.ref L, rfl, .inl ⟨rfl, _, SqL.of e2⟩, .ref a, rfl, a, rfl, w2, fun j H3 jb k3 w3 => ⟨L, ns.map V.int, .int j, rfl, rfl, k3 _ _ La e2, ?_, ?_⟩⟩
    · rw [List.length_map]; exact lt_line (by omega)
    · have w4 : We a (upd H3 L (.lst (ns.map V.int ++ [.int j]))) := by obtain ⟨x, y, z, e⟩ := w3; exact ⟨x, y, z, by rw [upd_ne La.symm]; exact e⟩
      exact ⟨some (.int (0 + (i : Int))), ns ++ [j], rfl, kp_upd (k2.trans k3) nL, w4, by rw [upd_same, List.map_append]; rfl, by simp [l2], fun c hc => by
        rcases List.mem_append.mp hc with hc | hc
        · exact b2 c hc
        · rw [List.mem_singleton.mp hc]; exact jb⟩
  · rintro σ H2 ⟨x3, ns, rfl, k2, w2, e2, l2, b2⟩
    refine ⟨.ref L, rfl, L, ns, rfl, e2, fun v H3 s3 r3 => q v (trimI ns) H3 (k2.trans (Kp.of s3)) (w2.to s3) r3 (okR_trim _) ?_ fun c hc => b2 c (trimBy_mem _ _ hc)⟩
    have : (trimI ns).length ≤ ns.length := trimBy_len _ ns
    omega
end
end K25

set_option Elab.async false
set_option linter.all false
set_option maxRecDepth 100000
set_option maxHeartbeats 8000000
local macro_rules | `(tactic| walk_at "rd") => `(tactic| dsimp only [Evl.tCut, L2.tSeq, L2.tNext, L2.tRet, L2.tRetN, L2.tAsg, L2.gName, L2.tIfS, L2.tDrop, L2.tCons, L2.tNil, L2.tC, L2.tVar, L2.tCB, L2.tAndV, L2.tOrV, L2.tNotV, L2.tB, L2.tTest, L2.tOp, L2.tUn, L2.tNot, L2.tAnd, L2.tOr, L2.tIf, L2.tCall, L2.tTup, L2.tLst, L2.tNotT, L2.tYes, L2.gTup, L2.gCons, L2.gNil, L2.gSub, L2.tBM0, L2.tBM, L2.tWhile, L2.iRng1, L2.tSl, L2.tNoPart, L2.tPart, Tw.tRevT])
namespace K25
open PySem PySem.Spec PyProof.Rows L2 Tw
/-- a new well -/
def spWell (K : PySem.W.Frag) : Sp := fun vs H Q _ => ∃ (p : Addr) (ns : List Int) (k : Int), vs = [.ref p, .int k] ∧ SqL K H p (ns.map V.int) ∧ ns.length ≤ 63 ∧ 0 ≤ k ∧ ∀ a H', Same H H' → H a = none → We a H' → Q (.ref a) H'
def spLaw (K : PySem.W.Frag) : Sp := fun vs H Q _ => ∃ (p : Addr) (ns : List Int), vs = [.ref p] ∧ SqL K H p (ns.map V.int) ∧ ns.length ≤ 63 ∧ ∀ H', Q (.bl true) H'
section
variable {P : Program} {w : World} {K : PySem.W.Frag} {mg : Str → Option Value} {base : Heap}
theorem scWell : FnScope ["_law_script", "_law_at", "_law_mixed", "_law_cell", "_law_own"] ["_law_script", "_law_at"] (defScope sWell) := ⟨rfl, rfl, rfl, by decide +kernel, rfl, by decide +kernel, by decide +kernel⟩
theorem ok_well (D : Def K mg "_law_well" sWell ["_law_script", "_law_at"]) (nb : Nb mg) : Cal P w K mg base "_law_well" 1 ["_law_script", "_law_at"] (spWell K) := by
  refine D.ok scWell (fun vs H Q E h => ?_) (fun f cdv A out s H vs Q E hr h => ?_)
  · obtain ⟨p, ns, k, rfl, _⟩ := h; rfl
  obtain ⟨p, ns, k, rfl, hp, hl, k0, q⟩ := h
  refine ⟨_, pss_cons (ps_set (i := 2) scWell.nd rfl (Or.inl rfl) (pe_op op_add pe_int (pe_op op_mul pe_int (pv 1))))
    (pss_cons (ps_for PassesOwn.never rfl (pi_list (pe_slice sl_list (pv 0) po_none (po_some pe_int))) (pg_name (i := 3) scWell.nd rfl (Or.inl rfl))
        (pss_one (ps_set (i := 2) scWell.nd rfl (Or.inl rfl) (pe_op op_mod (pe_callTy (T := "int") call_int1 (by rfl) nb.int (by decide +kernel)
          (pa_cons (pe_op op_add (pe_op op_add (pe_op op_mul (pv 2) pe_int) (pe_op op_mod (pe_callTy (T := "int") call_int1 (by rfl) nb.int (by decide +kernel) (pa_cons (pv 3) pa_nil)) pe_int)) pe_int) pa_nil)) pe_int))))
    (Evl.pss_cut (ps_set (i := 4) scWell.nd rfl (Or.inl rfl) (pe_ifExp (pt_cmpR op_lt (pv 1) (pe_callB (id := "len") call_len_seq (by rfl) nb.len PySem.boot_len (pa_cons (pv 0) pa_nil)) (nomark _))
        (pe_callTy (T := "int") call_int1 (by rfl) nb.int (by decide +kernel) (pa_cons (pe_ix ix_list (pv 0) (pv 1) (fun _ _ => rfl)) pa_nil)) pe_int))
    (pss_cons (ps_set (i := 2) scWell.nd rfl (Or.inl rfl) (pe_op op_mod (pe_callTy (T := "int") call_int1 (by rfl) nb.int (by decide +kernel)
        (pa_cons (pe_op op_add (pe_op op_add (pe_op op_mul (pv 2) pe_int) (pe_op op_mul (pe_op op_mod (pe_callTy (T := "int") call_int1 (by rfl) nb.int (by decide +kernel) (pa_cons (pv 4) pa_nil)) pe_int) pe_int)) pe_int) pa_nil)) pe_int))
    (pss_one (ps_ret (pe_lst (pa_cons (pe_ifExp (PW.pt (pw_or (pt_cmpR op_lt (pv 4) pe_int (nomark _)) (pw_or1 (pt_cmpR op_ge (pv 4) (pe_op op_pow pe_int pe_int) (nomark _)))))
        (pe_callB (id := "abs") call_abs (by rfl) nb.abs (by decide +kernel) (pa_cons (pv 4) pa_nil)) pe_int) (pa_cons (pv 2) (pa_cons pe_int pa_nil))))))))), ?_⟩
  walk_at "rd"
  refine ⟨.int k, rfl, _, _, rfl, rfl, .inl ⟨by decide, by decide⟩, _, _, rfl, rfl, .ref p, rfl, 9, rfl, p, _, rfl, hp, fun c nc => ?_⟩
  have s1 := same_new (o := .lst (L2.cutV (ns.map V.int) none (some 9))) nc
  have hc : upd H c (.lst (L2.cutV (ns.map V.int) none (some 9))) c = some (.lst (L2.cutV (ns.map V.int) none (some 9))) := upd_same
  generalize upd H c _ = H1 at s1 hc ⊢
  have hp1 : SqL K H1 p (ns.map V.int) := s1.seq hp
  refine ⟨c, rfl, ⟨_, SqL.of hc⟩, for_lst (xs := L2.cutV (ns.map V.int) none (some 9)) (fun i σ H' => ∃ (mx : Int) (x3 : Option V), σ = [some (.ref p), some (.int k), some (.int mx), x3, none] ∧ H' = H1) ⟨_, none, rfl, rfl⟩ (fun i σ' H' _ h => ?_) (fun i x σ' H' hx h => ?_) (fun σ' H' h => ?_)⟩
  · obtain ⟨mx, x3, rfl, rfl⟩ := h; exact SqL.of hc
  · obtain ⟨mx, x3, rfl, rfl⟩ := h
    obtain ⟨n, _, rfl⟩ : ∃ n, n ∈ ns ∧ V.int n = x := List.mem_map.mp (List.mem_of_mem_drop (List.mem_of_mem_take (List.mem_of_getElem? hx)))
    refine ⟨.int mx, rfl, _, _, rfl, rfl, .inr ⟨by decide, by decide⟩, .int n, rfl, .inl ⟨n, rfl, _, _, rfl, rfl, (by show (0 : Int) < _; decide), _, _, rfl, rfl, _, _, rfl, rfl, .inl ⟨_, rfl, _, _, rfl, rfl, (by show (0 : Int) < _; decide), ?_⟩⟩⟩
    exact ⟨_, some (.int n), rfl, rfl⟩
  · obtain ⟨mx, x3, rfl, rfl⟩ := h
    refine ⟨fun σ2 H2 => ∃ o : Int, σ2 = [some (.ref p), some (.int k), some (.int mx), x3, some (.int o)] ∧ H2 = H', ⟨.int k, rfl, .ref p, rfl, p, _, rfl, .inl hp1, _, _, rfl, rfl, _, rfl, ite2 (fun c1 => ?_) (fun c1 => ⟨0, rfl, rfl⟩)⟩, ?_⟩
    · have c1 := of_decide_eq_true c1
      rw [List.length_map] at c1
      obtain ⟨j, rfl⟩ := Int.eq_ofNat_of_zero_le k0
      have hj : j < ns.length := by omega
      refine ⟨.ref p, rfl, .int j, rfl, p, _, j, .int ns[j], rfl, rfl, hp1, atI_nat (by rw [List.getElem?_map, List.getElem?_eq_getElem hj]; rfl), .inl ⟨_, rfl, ns[j], rfl, rfl⟩⟩
    · rintro σ2 H2 ⟨o, rfl, rfl⟩
      refine ⟨.int mx, rfl, _, _, rfl, rfl, .inr ⟨by decide, by decide⟩, .int o, rfl, .inl ⟨o, rfl, _, _, rfl, rfl, (by show (0 : Int) < _; decide), _, _, rfl, rfl, .inr ⟨by decide, by decide⟩, _, _, rfl, rfl, _, _, rfl, rfl, .inl ⟨_, rfl, _, _, rfl, rfl, (by show (0 : Int) < _; decide), ?_⟩⟩⟩
      have fin : ∀ x y : Int, [V.int x, .int y, .int 0].length ≤ sizeLine ∧ ∀ a, H2 a = none → Q (.ref a) (upd H2 a (.lst [.int x, .int y, .int 0])) := fun x y => ⟨sz (by simp), fun a na => q a _ (s1.trans (same_new na)) (s1.free na) ⟨_, _, _, upd_same⟩⟩
      refine ⟨.int o, rfl, _, _, rfl, rfl, _, rfl, ite2 (fun c1 => ?_) (fun c1 => ?_)⟩
      · exact iteT ⟨.int o, rfl, o, rfl, _, rfl, fin _ _⟩
      · refine ⟨.int o, rfl, _, _, rfl, rfl, ⟨by decide, by decide, by decide⟩, _, _, rfl, rfl, _, rfl, ite2 (fun c2 => ?_) (fun c2 => ?_)⟩
        · exact ⟨.int o, rfl, o, rfl, _, rfl, fin _ _⟩
        · exact ⟨_, rfl, fin _ _⟩

end
end K25

set_option Elab.async false
set_option linter.all false
set_option maxRecDepth 100000
set_option maxHeartbeats 4000000
local macro_rules | `(tactic| walk_at "rd") => `(tactic| dsimp only [Evl.tCut, L2.tSeq, L2.tNext, L2.tRet, L2.tRetN, L2.tAsg, L2.gName, L2.tIfS, L2.tDrop, L2.tCons, L2.tNil, L2.tC, L2.tVar, L2.tCB, L2.tAndV, L2.tOrV, L2.tNotV, L2.tB, L2.tTest, L2.tOp, L2.tUn, L2.tNot, L2.tAnd, L2.tOr, L2.tIf, L2.tCall, L2.tTup, L2.tLst, L2.tNotT, L2.tYes, L2.gTup, L2.gCons, L2.gNil, L2.gSub, L2.tBM0, L2.tBM, L2.tWhile, L2.tFor, L2.iRng1, L2.tPar, L2.tPar3, L2.tSl, L2.tNoPart, L2.tPart, Tw.tRevT])
namespace K25
open PySem PySem.Spec PyProof.Rows L2 Tw
/-! lists of values that stand for things -/
section
variable {α β : Type}
def RelA (R : Hp → V → α → Prop) (H : Hp) (xs : List V) (rs : List α) : Prop := xs.length = rs.length ∧ ∀ (i : Nat) v, xs[i]? = some v → ∃ r, rs[i]? = some r ∧ R H v r
def Stable (R : Hp → V → α → Prop) : Prop := ∀ H H' v r, Kt H H' → R H v r → R H' v r
theorem RelA.kt {R : Hp → V → α → Prop} (st : Stable R) {H H' : Hp} {xs : List V} {rs : List α} (k : Kt H H') (h : RelA R H xs rs) : RelA R H' xs rs :=
  ⟨h.1, fun i v e => let ⟨r, e1, e2⟩ := h.2 i v e; ⟨r, e1, st _ _ _ _ k e2⟩⟩
theorem RelA.snoc {R : Hp → V → α → Prop} {H : Hp} {xs : List V} {rs : List α} {v : V} {r : α} (h : RelA R H xs rs) (g : R H v r) : RelA R H (xs ++ [v]) (rs ++ [r]) := by
  obtain ⟨h1, h2⟩ := h
  refine ⟨by simp [h1], fun i u e => ?_⟩
  rcases Nat.lt_trichotomy i xs.length with c | c | c
  · rw [List.getElem?_append_left c] at e
    obtain ⟨r', e1, e2⟩ := h2 i u e
    exact ⟨r', by rw [List.getElem?_append_left (by omega)]; exact e1, e2⟩
  · subst c
    rw [List.getElem?_append_right (Nat.le_refl _), Nat.sub_self] at e
    cases e
    refine ⟨r, ?_, g⟩
    rw [h1, List.getElem?_append_right (Nat.le_refl _), Nat.sub_self]
    rfl
  · rw [List.getElem?_eq_none (by simp; omega)] at e
    cases e
theorem RelA.eq_map {f : α → V} {H : Hp} : ∀ {xs : List V} {rs : List α}, RelA (fun _ v r => v = f r) H xs rs → xs = rs.map f
  | [], [], _ => rfl
  | [], r :: rs, h => by have := h.1; simp at this
  | x :: xs, [], h => by have := h.1; simp at this
  | x :: xs, r :: rs, h => by
    obtain ⟨r', e1, e2⟩ := h.2 0 x rfl
    cases e1
    rw [List.map_cons, e2, RelA.eq_map (rs := rs) (xs := xs) (H := H) ⟨by have := h.1; simpa using this, fun i v e => by
      obtain ⟨r', e1, e2⟩ := h.2 (i + 1) v (by simpa using e)
      exact ⟨r', by simpa using e1, e2⟩⟩]
theorem RelA.of_map {f : α → V} {H : Hp} (rs : List α) : RelA (fun _ v r => v = f r) H (rs.map f) rs := ⟨by simp, fun i v e => by
  rw [List.getElem?_map] at e
  cases er : rs[i]? with
  | none => rw [er] at e; cases e
  | some r => rw [er] at e; cases e; exact ⟨r, rfl, rfl⟩⟩
theorem RelA.map {R : Hp → V → α → Prop} {H : Hp} {xs : List V} {rs : List α} (g : α → β) (S : Hp → V → β → Prop) (k : ∀ v r, r ∈ rs → R H v r → S H v (g r)) (h : RelA R H xs rs) : RelA S H xs (rs.map g) :=
  ⟨by rw [List.length_map]; exact h.1, fun i v e => by
    obtain ⟨r, e1, e2⟩ := h.2 i v e
    exact ⟨g r, by rw [List.getElem?_map, e1]; rfl, k v r (List.mem_of_getElem? e1) e2⟩⟩
theorem stable_eq (f : α → V) : Stable (fun _ v r => v = f r) := fun _ _ _ _ _ h => h
theorem stable_ro : Stable Ro := fun _ _ _ _ k h => h.kt k
variable {K : PySem.W.Frag} {te : TE} {i j : Nat} {elt : TE} {vs : List Nat} {σ : L2.St} {H : Hp} {Q : VK} {p : Addr} {xs : List V} {rs : List α} {S : Hp → V → α → Prop} {R : Hp → V → β → Prop} {g : α → β}
theorem rel_step {H1 H2 : Hp} {D : Addr} {m : Nat} {ys : List V} {y : V} {r : α} (sR : Stable R) (nD : H D = none) (hD : H1 D = some (.lst ys)) (s1 : Same H H1) (s2 : Same H1 H2) (er : rs[m]? = some r) (hr : RelA R H1 ys ((rs.take m).map g)) (hy : R H2 y (g r)) :
    H2 D = some (.lst ys) ∧ ys.length = m ∧ Same H (upd H2 D (.lst (ys ++ [y]))) ∧ upd H2 D (.lst (ys ++ [y])) D = some (.lst (ys ++ [y])) ∧ RelA R (upd H2 D (.lst (ys ++ [y]))) (ys ++ [y]) ((rs.take (m + 1)).map g) := by
  have e2 : H2 D = some (.lst ys) := s2 _ _ hD
  have hm : m < rs.length := (List.getElem?_eq_some_iff.mp er).1
  refine ⟨e2, ?_, same_upd (s1.trans s2) nD, upd_same, ?_⟩
  · rw [hr.1, List.length_map, List.length_take]; omega
  · rw [List.take_add_one, er, List.map_append]
    exact ((hr.kt sR (Kt.of s2)).snoc hy).kt sR (kt_upd e2)
/-- [.. for x in t], t a tuple of things -/
theorem lc_relT (sS : Stable S) (sR : Stable R) (hv : σ[i]? = some (some (.ref p))) (ht : H p = some (.tup xs)) (hd : RelA S H xs rs) (hn : rs.length < 100000)
    (hw : ∀ x, wipe ((wipe σ vs).set j (some x)) vs = wipe σ vs)
    (he : ∀ x r H1, r ∈ rs → Same H H1 → S H1 x r → ∀ Z : VK, (∀ y H2, Same H1 H2 → R H2 y (g r) → Z y H2) → elt ((wipe σ vs).set j (some x)) H1 Z)
    (q : ∀ D ys H', Same H H' → H D = none → H' D = some (.lst ys) → RelA R H' ys (rs.map g) → Q (.ref D) H') : tLc (iTup K (tVar i)) (gName j) tYes elt vs σ H Q := by
  refine ⟨.ref p, hv, p, rfl, ⟨xs, SqT.of ht⟩, fun D hD => ?_⟩
  refine lc_tup (xs := xs) (fun m H' => Same H H' ∧ ∃ ys, H' D = some (.lst ys) ∧ RelA R H' ys ((rs.take m).map g)) ⟨same_new hD, [], upd_same, rfl, fun i v e => by simp at e⟩ (fun m H' _ h => SqT.of (h.1 _ _ ht)) (fun m x H1 hx h => ?_) (fun H' h => ?_)
  · obtain ⟨h1, ys, h2, h3⟩ := h
    obtain ⟨r, e1, e2⟩ := hd.2 m x hx
    have hm : m < xs.length := (List.getElem?_eq_some_iff.mp hx).1
    have hx2 := hd.1
    refine ⟨hw x, ?_⟩
    unfold tYes
    simp only [if_true]
    refine he x r H1 (List.mem_of_getElem? e1) h1 (sS _ _ _ _ (Kt.of h1) e2) _ fun y H2 s2 ry => ?_
    obtain ⟨a1, a2, a3, a4, a5⟩ := rel_step sR hD h2 h1 s2 e1 h3 ry
    exact ⟨ys, a1, lt_line (by omega), a3, _, a4, a5⟩
  · obtain ⟨h1, ys, h2, h3⟩ := h
    rw [hd.1, List.take_length] at h3
    exact q D ys H' h1 hD h2 h3
/-- .. t a list -/
theorem lc_relL (sS : Stable S) (sR : Stable R) (hv : σ[i]? = some (some (.ref p))) (ht : H p = some (.lst xs)) (hd : RelA S H xs rs) (hn : rs.length < 100000)
    (hw : ∀ x, wipe ((wipe σ vs).set j (some x)) vs = wipe σ vs)
    (he : ∀ x r H1, r ∈ rs → Same H H1 → S H1 x r → ∀ Z : VK, (∀ y H2, Same H1 H2 → R H2 y (g r) → Z y H2) → elt ((wipe σ vs).set j (some x)) H1 Z)
    (q : ∀ D ys H', Same H H' → H D = none → H' D = some (.lst ys) → RelA R H' ys (rs.map g) → Q (.ref D) H') : tLc (iList K (tVar i)) (gName j) tYes elt vs σ H Q := by
  refine ⟨.ref p, hv, p, rfl, ⟨xs, SqL.of ht⟩, fun D hD => ?_⟩
  refine lc_list (xs := xs) (fun m H' => Same H H' ∧ ∃ ys, H' D = some (.lst ys) ∧ RelA R H' ys ((rs.take m).map g)) ⟨same_new hD, [], upd_same, rfl, fun i v e => by simp at e⟩ (fun m H' _ h => SqL.of (h.1 _ _ ht)) (fun m x H1 hx h => ?_) (fun H' h => ?_)
  · obtain ⟨h1, ys, h2, h3⟩ := h
    obtain ⟨r, e1, e2⟩ := hd.2 m x hx
    have hm : m < xs.length := (List.getElem?_eq_some_iff.mp hx).1
    have hx2 := hd.1
    refine ⟨hw x, ?_⟩
    unfold tYes
    simp only [if_true]
    refine he x r H1 (List.mem_of_getElem? e1) h1 (sS _ _ _ _ (Kt.of h1) e2) _ fun y H2 s2 ry => ?_
    obtain ⟨a1, a2, a3, a4, a5⟩ := rel_step sR hD h2 h1 s2 e1 h3 ry
    exact ⟨ys, a1, lt_line (by omega), a3, _, a4, a5⟩
  · obtain ⟨h1, ys, h2, h3⟩ := h
    rw [hd.1, List.take_length] at h3
    exact q D ys H' h1 hD h2 h3
end
/-! a small fraction; a row's worth at one -/
end K25

set_option Elab.async false
set_option linter.all false
set_option maxRecDepth 100000
set_option maxHeartbeats 4000000
local macro_rules | `(tactic| walk_at "rd") => `(tactic| dsimp only [Evl.tCut, L2.tSeq, L2.tNext, L2.tRet, L2.tRetN, L2.tAsg, L2.gName, L2.tIfS, L2.tDrop, L2.tCons, L2.tNil, L2.tC, L2.tVar, L2.tCB, L2.tAndV, L2.tOrV, L2.tNotV, L2.tB, L2.tTest, L2.tOp, L2.tUn, L2.tNot, L2.tAnd, L2.tOr, L2.tIf, L2.tCall, L2.tTup, L2.tLst, L2.tNotT, L2.tYes, L2.gTup, L2.gCons, L2.gNil, L2.gSub, L2.tBM0, L2.tBM, L2.tWhile, L2.tFor, L2.iRng1, L2.tPar, L2.tPar3, L2.tSl, L2.tNoPart, L2.tPart, Tw.tRevT])
namespace K25
open PySem PySem.Spec PyProof.Rows L2 Tw
def rLn (K : PySem.W.Frag) : List V → Hp → VK → Prop := fun xs H Q => ∃ p ys, xs = [.ref p] ∧ (SqL K H p ys ∨ SqT K H p ys) ∧ Q (.int ys.length) H
theorem wipeJ (σ : L2.St) (j : Nat) (x : Option V) : wipe ((wipe σ [j]).set j x) [j] = wipe σ [j] := by
  show ((σ.set j none).set j x).set j none = σ.set j none
  rw [List.set_set, List.set_set]
end K25

set_option linter.all false
set_option maxRecDepth 10000
/-! rows and polys by their numbers -/
namespace K25
abbrev g (r : List Int) (k : Nat) : Int := r.getD k 0
def rw' (p : List (List Int)) (i : Nat) : List Int := p.getD i []
def co (p : List (List Int)) (i j : Nat) : Int := g (rw' p i) j
theorem g_none {r : List Int} {k : Nat} (h : r.length ≤ k) : g r k = 0 := by
  unfold g
  rw [List.getD_eq_getElem?_getD, List.getElem?_eq_none h]
  rfl
theorem g_some {r : List Int} {k : Nat} (h : k < r.length) : g r k = r[k] := by
  unfold g
  rw [List.getD_eq_getElem?_getD, List.getElem?_eq_getElem h]
  rfl
theorem rw_none {p : List (List Int)} {k : Nat} (h : p.length ≤ k) : rw' p k = [] := by
  unfold rw'
  rw [List.getD_eq_getElem?_getD, List.getElem?_eq_none h]
  rfl
theorem rw_some {p : List (List Int)} {k : Nat} (h : k < p.length) : rw' p k = p[k] := by
  unfold rw'
  rw [List.getD_eq_getElem?_getD, List.getElem?_eq_getElem h]
  rfl
theorem getD_trim {α : Type} (z : α → Bool) (d : α) (hz : ∀ a, z a = true → a = d) : ∀ (l : List α) (k : Nat), (trimBy z l).getD k d = l.getD k d
  | [], k => rfl
  | a :: l, k => by
    have ih := getD_trim z d hz l
    rw [trimBy]
    cases e : trimBy z l with
    | nil =>
      rw [e] at ih
      by_cases c : z a = true
      · rw [if_pos c]
        cases k with
        | zero => simp [hz a c]
        | succ k => simpa using ih k
      · rw [if_neg c]
        cases k with
        | zero => simp
        | succ k => simpa using ih k
    | cons b r =>
      rw [e] at ih
      cases k with
      | zero => simp
      | succ k => simpa using ih k
theorem g_trim (l : List Int) (k : Nat) : g (trimI l) k = g l k := getD_trim _ _ (fun a h => by simpa using h) l k
theorem rw_trim (p : List (List Int)) (k : Nat) : rw' (trimP p) k = rw' p k := getD_trim _ _ (fun a h => by simpa using h) p k
theorem getD_take {α : Type} (d : α) (l : List α) (n k : Nat) (h : ∀ i, n ≤ i → l.getD i d = d) : (l.take n).getD k d = l.getD k d := by
  rw [List.getD_eq_getElem?_getD, List.getElem?_take]
  split
  · rw [List.getD_eq_getElem?_getD]
  · rw [h k (by omega)]
    rfl
/-- a row is known by its numbers -/
theorem row_ext {r s : List Int} (hr : okR r) (hs : okR s) (h : ∀ k, g r k = g s k) : r = s := by
  have half : ∀ {r s : List Int}, okR s → (∀ k, g r k = g s k) → s.length ≤ r.length := fun {r s} hs h => by
    rcases Nat.lt_or_ge r.length s.length with c | c
    · exfalso
      have e : s.getLast? = some s[s.length - 1] := by rw [List.getLast?_eq_getElem?, List.getElem?_eq_getElem (by omega)]
      refine hs _ e ?_
      rw [← g_some (by omega), ← h, g_none (by omega)]
    · exact c
  have l : r.length = s.length := Nat.le_antisymm (half hr fun k => (h k).symm) (half hs h)
  refine List.ext_getElem l fun k h1 h2 => ?_
  rw [← g_some h1, ← g_some h2, h]
theorem okR_nil : okR [] := fun c h => by simp at h
theorem okR_rw {p : List (List Int)} (h : ∀ r ∈ p, okR r) (i : Nat) : okR (rw' p i) := by
  rcases Nat.lt_or_ge i p.length with c | c
  · rw [rw_some c]; exact h _ (List.getElem_mem _)
  · rw [rw_none c]; exact okR_nil
theorem poly_ext {p q : List (List Int)} (hp : okP p) (hq : okP q) (h : ∀ i j, co p i j = co q i j) : p = q := by
  have e : ∀ i, rw' p i = rw' q i := fun i => row_ext (okR_rw hp.1 i) (okR_rw hq.1 i) (h i)
  have half : ∀ {p q : List (List Int)}, okP q → (∀ i, rw' p i = rw' q i) → q.length ≤ p.length := fun {p q} hq h => by
    rcases Nat.lt_or_ge p.length q.length with c | c
    · exfalso
      have e : q.getLast? = some q[q.length - 1] := by rw [List.getLast?_eq_getElem?, List.getElem?_eq_getElem (by omega)]
      refine hq.2 _ e ?_
      rw [← rw_some (by omega), ← h, rw_none (by omega)]
    · exact c
  have l : p.length = q.length := Nat.le_antisymm (half hp fun k => (e k).symm) (half hq e)
  refine List.ext_getElem l fun k h1 h2 => ?_
  rw [← rw_some h1, ← rw_some h2, e]
/-! sums -/
def S : Nat → (Nat → Int) → Int
  | 0, _ => 0
  | n + 1, f => S n f + f n
theorem S_ext {f h : Nat → Int} : ∀ n, (∀ i, i < n → f i = h i) → S n f = S n h
  | 0, _ => rfl
  | n + 1, e => by rw [S, S, S_ext n fun i hi => e i (by omega), e n (by omega)]
theorem S_zero : ∀ n, S n (fun _ => 0) = 0
  | 0 => rfl
  | n + 1 => by rw [S, S_zero n]; rfl
theorem S_more {f : Nat → Int} {n m : Nat} (h : n ≤ m) (z : ∀ i, n ≤ i → f i = 0) : S m f = S n f := by
  induction m with
  | zero => have : n = 0 := by omega
            subst this; rfl
  | succ m ih =>
    rcases Nat.lt_or_ge m n with c | c
    · have : n = m + 1 := by omega
      subst this; rfl
    · rw [S, ih c, z m c, Int.add_zero]
theorem S_add {f h : Nat → Int} : ∀ n, S n (fun i => f i + h i) = S n f + S n h
  | 0 => rfl
  | n + 1 => by rw [S, S, S, S_add n]; omega
theorem S_mul {f : Nat → Int} (c : Int) : ∀ n, S n (fun i => c * f i) = c * S n f
  | 0 => by simp [S]
  | n + 1 => by rw [S, S, S_mul c n, Int.mul_add]
theorem S_shift {f : Nat → Int} : ∀ n, S (n + 1) f = f 0 + S n (fun i => f (i + 1))
  | 0 => by simp [S]
  | n + 1 => by
    rw [S, S_shift n, S]
    omega
theorem S_rev {f : Nat → Int} : ∀ n, S (n + 1) f = S (n + 1) (fun i => f (n - i))
  | 0 => rfl
  | n + 1 => by
    rw [S, S_rev n, S_shift (f := fun i => f (n + 1 - i))]
    have : S (n + 1) (fun i => f (n + 1 - (i + 1))) = S (n + 1) (fun i => f (n - i)) := S_ext _ fun i _ => by rw [Nat.add_sub_add_right]
    rw [this]
    show _ + f (n + 1) = f (n + 1 - 0) + _
    rw [Nat.sub_zero]
    omega
theorem S_comm {f : Nat → Nat → Int} (m : Nat) : ∀ n, S n (fun i => S m (fun j => f i j)) = S m (fun j => S n (fun i => f i j))
  | 0 => by simp only [S]; exact (S_zero m).symm
  | n + 1 => by
    rw [S, S_comm m n, ← S_add]
    rfl
/-- what two rows of numbers make, multiplied -/
def cv (f h : Nat → Int) (k : Nat) : Int := S (k + 1) fun i => f i * h (k - i)
theorem cv_comm (f h : Nat → Int) (k : Nat) : cv f h k = cv h f k := by
  unfold cv
  rw [S_rev]
  refine S_ext _ fun i hi => ?_
  rw [Nat.sub_sub_self (by omega), Int.mul_comm]
/-- the loops' sum -/
theorem cv_loop {f h : Nat → Int} {n : Nat} (z : ∀ i, n ≤ i → f i = 0) (k : Nat) : S n (fun a => if a ≤ k then f a * h (k - a) else 0) = cv f h k := by
  have e1 : S (max n (k + 1)) (fun a => if a ≤ k then f a * h (k - a) else 0) = S n (fun a => if a ≤ k then f a * h (k - a) else 0) := S_more (by omega) fun i hi => by
    rw [z i hi, Int.zero_mul]
    split <;> rfl
  have e2 : S (max n (k + 1)) (fun a => if a ≤ k then f a * h (k - a) else 0) = S (k + 1) (fun a => if a ≤ k then f a * h (k - a) else 0) := S_more (by omega) fun i hi => by
    rw [if_neg (by omega)]
  rw [← e1, e2]
  unfold cv
  exact S_ext _ fun i hi => by rw [if_pos (by omega)]
theorem cv_zero {h : Nat → Int} {f : Nat → Int} (z : ∀ i, f i = 0) (k : Nat) : cv f h k = 0 := by
  unfold cv
  rw [S_ext (h := fun _ => 0) _ fun i _ => by rw [z i, Int.zero_mul], S_zero]
theorem g_set {l : List Int} {n : Nat} {c : Int} (h : n < l.length) (k : Nat) : g (l.set n c) k = if k = n then c else g l k := by
  unfold g
  rw [List.getD_eq_getElem?_getD, List.getD_eq_getElem?_getD, List.getElem?_set]
  by_cases e : n = k
  · subst e
    rw [if_pos rfl, if_pos h, if_pos rfl]
    rfl
  · rw [if_neg e, if_neg (fun z => e z.symm)]
theorem rw_set {l : List (List Int)} {n : Nat} {c : List Int} (h : n < l.length) (k : Nat) : rw' (l.set n c) k = if k = n then c else rw' l k := by
  unfold rw'
  rw [List.getD_eq_getElem?_getD, List.getD_eq_getElem?_getD, List.getElem?_set]
  by_cases e : n = k
  · subst e
    rw [if_pos rfl, if_pos h, if_pos rfl]
    rfl
  · rw [if_neg e, if_neg (fun z => e z.symm)]
end K25

set_option Elab.async false
set_option linter.all false
set_option maxRecDepth 100000
set_option maxHeartbeats 4000000
local macro_rules | `(tactic| walk_at "rd") => `(tactic| dsimp only [Evl.tCut, L2.tSeq, L2.tNext, L2.tRet, L2.tRetN, L2.tAsg, L2.gName, L2.tIfS, L2.tDrop, L2.tCons, L2.tNil, L2.tC, L2.tVar, L2.tCB, L2.tAndV, L2.tOrV, L2.tNotV, L2.tB, L2.tTest, L2.tOp, L2.tUn, L2.tNot, L2.tAnd, L2.tOr, L2.tIf, L2.tCall, L2.tTup, L2.tLst, L2.tNotT, L2.tYes, L2.gTup, L2.gCons, L2.gNil, L2.gSub, L2.tBM0, L2.tBM, L2.tWhile, L2.tFor, L2.iRng1, L2.tPar, L2.tPar3, L2.tSl, L2.tNoPart, L2.tPart, Tw.tRevT])
namespace K25
open PySem PySem.Spec PyProof.Rows L2 Tw
theorem seqT {K : PySem.W.Frag} {H H' : Hp} {a : Addr} {xs : List V} (e : Same H H') (h : SqT K H a xs) : SqT K H' a xs := by
  rcases h with (h | ⟨o, h⟩) | h
  · exact .inl (.inl (e _ _ h))
  · exact .inl (.inr ⟨o, e _ _ h⟩)
  · exact .inr h
def SB (b : Nat) (r : List Int) : Prop := ∀ c ∈ r, c.natAbs ≤ b
def spRSum : Sp := fun vs H Q _ => ∃ u v r s b1 b2, vs = [u, v] ∧ Ro H u r ∧ Ro H v s ∧ r.length ≤ 100 ∧ s.length ≤ 100 ∧ SB b1 r ∧ SB b2 s ∧ ∀ z t H', Same H H' → Ro H' z t → okR t → t.length ≤ max r.length s.length → SB (b1 + b2) t → (∀ k, g t k = g r k + g s k) → Q z H'
def spRTimes : Sp := fun vs H Q _ => ∃ u v r s b1 b2, vs = [u, v] ∧ Ro H u r ∧ Ro H v s ∧ r.length ≤ 100 ∧ s.length ≤ 100 ∧ SB b1 r ∧ SB b2 s ∧ (b1 < 2 ^ 900 ∧ b2 < 2 ^ 900) ∧ ∀ z t H', Same H H' → Ro H' z t → okR t → t.length ≤ r.length + s.length → SB (r.length * s.length * (b1 * b2)) t → (∀ k, g t k = cv (g r) (g s) k) → Q z H'
theorem sb_get {b : Nat} {r : List Int} (h : SB b r) (k : Nat) : (r.getD k 0).natAbs ≤ b := by
  rw [List.getD_eq_getElem?_getD]
  cases e : r[k]? with
  | none => simp
  | some x => exact h x (List.mem_of_getElem? e)
theorem sb_trim {b : Nat} {r : List Int} (h : SB b r) : SB b (trimI r) := fun c hc => h c (trimBy_mem _ _ hc)
section
variable {P : Program} {w : World} {K : PySem.W.Frag} {mg : Str → Option Value} {base : Heap}
theorem flat_one (k : Nat) (x : V) : (List.replicate k [x]).flatten = List.replicate k x := by
  induction k with
  | zero => rfl
  | succ k ih => rw [List.replicate_succ, List.flatten_cons, ih, List.replicate_succ]; rfl
theorem pad_get {r : List Int} {N k : Nat} (hk : k < N) (hr : r.length ≤ N) : (r.map V.int ++ List.replicate (N - r.length) (V.int 0))[k]? = some (.int (r.getD k 0)) := by
  rw [List.getD_eq_getElem?_getD]
  rcases Nat.lt_or_ge k r.length with c | c
  · rw [List.getElem?_append_left (by rw [List.length_map]; exact c), List.getElem?_map, List.getElem?_eq_getElem c]
    rfl
  · rw [List.getElem?_append_right (by rw [List.length_map]; exact c), List.getElem?_replicate, if_pos (by rw [List.length_map]; omega), List.getElem?_eq_none c]
    rfl
/-- one + (0,) * (many - len(one)), as it is read -/
theorem pad_rd {pu : Addr} {r : List Int} {N : Nat} {H : Hp} {Q : VK} (e : H pu = some (.tup (r.map V.int))) (hr : r.length ≤ N) (hN : N ≤ 100) (q : ∀ t H', Same H H' → SqT K H' t (r.map V.int ++ List.replicate (N - r.length) (V.int 0)) → Q (.ref t) H') :
    [V.int 0].length ≤ sizeLine ∧ ∀ p, H p = none → ∀ H1, H1 = upd H p (.tup [.int 0]) → rMulT K (.ref p) (.int ((N - r.length : Nat) : Int)) H1 fun x H2 => rCatA K (.ref pu) x H2 Q := by
  refine ⟨sz (by simp), fun p np H1 e1 => ?_⟩
  subst e1
  have s1 := same_new (o := .tup [.int 0]) np
  refine ⟨p, N - r.length, [.int 0], rfl, rfl, SqT.of upd_same, by simp, by omega, by simp, fun t H2 s2 ht => ?_⟩
  rw [flat_one] at ht
  have s12 := s1.trans s2
  refine ⟨pu, t, r.map V.int, _, rfl, rfl, SqT.of (s12 _ _ e), ht, sz (by simp; omega), fun c => ?_, fun c c2 => ?_, fun c c2 p2 np2 => ?_⟩
  · refine q t H2 s12 ?_
    rw [c, List.nil_append]
    exact ht
  · refine q pu H2 s12 ?_
    rw [c2, List.append_nil]
    exact SqT.of (s12 _ _ e)
  · exact q p2 _ (s12.trans (same_new np2)) (SqT.of upd_same)
theorem scRSum : FnScope ["_law_one", "_law_two", "_law_many", "_law_far", "_law_high", "_law_k"] ["_law_one", "_law_two"] (defScope sRSum) := ⟨rfl, rfl, rfl, by decide +kernel, rfl, by decide +kernel, by decide +kernel⟩
theorem ok_rsum (D : Def K mg "_law_row_sum" sRSum ["_law_one", "_law_two"]) (nb : Nb mg) (c1 : Cal P w K mg base "_law_trim" 1 ["_law_some_here"] spTrim) : Cal P w K mg base "_law_row_sum" 2 ["_law_one", "_law_two"] spRSum := by
  have c2 := c1.imp trim_int
  refine D.ok scRSum (fun vs H Q E h => ?_) (fun f cdv A out s H vs Q E hr h => ?_)
  · obtain ⟨u, v, r, s, b1, b2, rfl, _⟩ := h; rfl
  obtain ⟨u, v, r, t, b1, b2, rfl, hu, hv, lr, lt, br, bt, q⟩ := h
  refine ⟨_, pss_cons (ps_set (i := 2) scRSum.nd rfl (Or.inl rfl) (pe_callB (id := "max") (call_max2 rfl) (by rfl) nb.max (by decide +kernel) (pa_cons (pe_callB (id := "len") (r := rLn K) call_len_seq (by rfl) nb.len PySem.boot_len (pa_cons (pv 0) pa_nil)) (pa_cons (pe_callB (id := "len") (r := rLn K) call_len_seq (by rfl) nb.len PySem.boot_len (pa_cons (pv 1) pa_nil)) pa_nil))))
    (pss_cons (ps_asg (pe_tup (pa_cons (pe_op (r := rCatA K) op_catA (pv 0) (pe_op (r := rMulT K) op_mulT (pe_tup (pa_cons pe_int pa_nil)) (pe_op op_sub (pv 2) (pe_callB (id := "len") (r := rLn K) call_len_seq (by rfl) nb.len PySem.boot_len (pa_cons (pv 0) pa_nil)))))
          (pa_cons (pe_op (r := rCatA K) op_catA (pv 1) (pe_op (r := rMulT K) op_mulT (pe_tup (pa_cons pe_int pa_nil)) (pe_op op_sub (pv 2) (pe_callB (id := "len") (r := rLn K) call_len_seq (by rfl) nb.len PySem.boot_len (pa_cons (pv 1) pa_nil))))) pa_nil)))
        (pg_tup rfl (pgs_cons (pg_name (i := 3) scRSum.nd rfl (Or.inr rfl)) (pgs_cons (pg_name (i := 4) scRSum.nd rfl (Or.inr rfl)) pgs_nil))))
    (pss_one (ps_ret (pe_cal c2 hr (by decide) (by rfl) (pa_cons
        (pe_lc (own := [("_law_k", 5)]) (g := gName 5) (tt := tYes) rfl scRSum.nd (pi_range1 (by rfl) nb.rng (pa_cons (pv 2) pa_nil)) (blkOk_by (N := ["_law_one", "_law_two", "_law_many", "_law_far", "_law_high", "_law_k"]) (sc := defScope sRSum) (by decide +kernel))
            (fun _ _ _ _ _ => pg_name (i := 5) scRSum.nd rfl (Or.inl rfl)) (fun _ _ _ _ _ => pts_nil)
            (fun _ _ _ _ _ => pe_op op_add (pe_ix (r := rIxT K) ix_tup (pv 3) (pv 5) (fun _ _ => rfl)) (pe_ix (r := rIxT K) ix_tup (pv 4) (pv 5) (fun _ _ => rfl)))) pa_nil))))), ?_⟩
  walk_at "rd"
  obtain ⟨pu, rfl, eu⟩ := hu
  obtain ⟨pw, rfl, ev⟩ := hv
  refine ⟨.ref pu, rfl, pu, _, rfl, .inr (SqT.of eu), .ref pw, rfl, pw, _, rfl, .inr (SqT.of ev), _, _, rfl, ?_⟩
  have em : (if ((t.map V.int).length : Int) > ((r.map V.int).length : Int) then ((t.map V.int).length : Int) else ((r.map V.int).length : Int)) = ((max r.length t.length : Nat) : Int) := by
    rw [List.length_map, List.length_map]
    split <;> omega
  rw [em]
  generalize hN : max r.length t.length = N
  have hrN : r.length ≤ N := by omega
  have htN : t.length ≤ N := by omega
  have hN100 : N ≤ 100 := by omega
  have e1 : (N : Int) - ((r.map V.int).length : Int) = ((N - r.length : Nat) : Int) := by rw [List.length_map]; omega
  have e2 : (N : Int) - ((t.map V.int).length : Int) = ((N - t.length : Nat) : Int) := by rw [List.length_map]; omega
  refine ⟨.ref pu, rfl, sz (by simp), fun p np => ?_⟩
  have s1 := same_new (o := .tup [.int 0]) np
  refine ⟨.int N, rfl, .ref pu, rfl, pu, _, rfl, .inr (SqT.of (s1 _ _ eu)), _, _, rfl, rfl, ?_⟩
  walk_at "rd"
  rw [e1]
  refine (pad_rd (K := K) eu hrN hN100 (fun t1 H1 s1 h1 => ?_)).2 p np _ rfl
  refine ⟨.ref pw, rfl, sz (by simp), fun p2 np2 => ?_⟩
  have s2 := same_new (o := .tup [.int 0]) np2
  refine ⟨.int N, rfl, .ref pw, rfl, pw, _, rfl, .inr (SqT.of ((s1.trans s2) _ _ ev)), _, _, rfl, rfl, ?_⟩
  walk_at "rd"
  rw [e2]
  refine (pad_rd (K := K) (s1 _ _ ev) htN hN100 (fun t2 H2 s2 h2 => ?_)).2 p2 np2 _ rfl
  refine ⟨sz (by simp), fun p3 np3 => ⟨p3, _, rfl, SqT.of upd_same, rfl, _, _, rfl, _, _, rfl, rfl, ?_⟩⟩
  have s3 := same_new (o := .tup [.ref t1, .ref t2]) np3
  have h1' := seqT (s2.trans s3) h1
  have h2' := seqT s3 h2
  refine lc_rng (n := N) (fun k => V.int (r.getD k 0 + t.getD k 0)) (fun R hR => ⟨.int N, rfl, (N : Int), rfl, by omega, by omega, hR⟩) (by omega) (fun x => wipeJ _ _ _) (fun k H4 hk s4 R kR => ?_) fun L H4 s4 nL eL => ?_
  · walk_at "rd"
    rw [Int.zero_add]
    refine ⟨.ref t1, rfl, .int k, rfl, t1, _, k, .int (r.getD k 0), rfl, rfl, seqT s4 h1', atI_nat (pad_get hk hrN), .ref t2, rfl, .int k, rfl, t2, _, k, .int (t.getD k 0), rfl, rfl, seqT s4 h2', atI_nat (pad_get hk htN), _, _, rfl, rfl, kR _ (Same.refl _)⟩
  · refine ⟨L, (List.range N).map fun k => r.getD k 0 + t.getD k 0, rfl, by rw [eL, List.map_map]; rfl, fun z H5 s5 r5 => ?_⟩
    refine q z _ H5 (s1.trans (s2.trans (s3.trans (s4.trans s5)))) r5 (okR_trim _) ?_ (sb_trim fun c hc => ?_) fun k => ?_
    · refine Nat.le_trans (trimBy_len _ _) ?_
      rw [List.length_map, List.length_range]
      omega
    · obtain ⟨k, _, rfl⟩ := List.mem_map.mp hc
      exact Nat.le_trans (Int.natAbs_add_le _ _) (Nat.add_le_add (sb_get br k) (sb_get bt k))
    · rw [g_trim]
      rcases Nat.lt_or_ge k N with c | c
      · rw [g_some (by rw [List.length_map, List.length_range]; exact c), List.getElem_map, List.getElem_range]
      · rw [g_none (by rw [List.length_map, List.length_range]; exact c), g_none (show r.length ≤ k by omega), g_none (show t.length ≤ k by omega)]
        rfl
end
end K25

set_option Elab.async false
set_option linter.all false
set_option maxRecDepth 100000
set_option maxHeartbeats 4000000
local macro_rules | `(tactic| walk_at "rd") => `(tactic| dsimp only [Evl.tCut, L2.tSeq, L2.tNext, L2.tRet, L2.tRetN, L2.tAsg, L2.gName, L2.tIfS, L2.tDrop, L2.tCons, L2.tNil, L2.tC, L2.tVar, L2.tCB, L2.tAndV, L2.tOrV, L2.tNotV, L2.tB, L2.tTest, L2.tOp, L2.tUn, L2.tNot, L2.tAnd, L2.tOr, L2.tIf, L2.tCall, L2.tTup, L2.tLst, L2.tNotT, L2.tYes, L2.gTup, L2.gCons, L2.gNil, L2.gSub, L2.tBM0, L2.tBM, L2.tWhile, L2.tFor, L2.iRng1, L2.tPar, L2.tPar3, L2.tSl, L2.tNoPart, L2.tPart, Tw.tRevT])
namespace K25
open PySem PySem.Spec PyProof.Rows L2 Tw
theorem SB.up {a b : Nat} {r : List Int} (h : SB a r) (l : a ≤ b) : SB b r := fun c hc => Nat.le_trans (h c hc) l
theorem sb_set {b x : Nat} {r : List Int} {c : Int} {k : Nat} (h : SB b r) (hc : c.natAbs ≤ x) (hb : b ≤ x) : SB x (r.set k c) := fun y hy => by
  rcases List.mem_or_eq_of_mem_set hy with hy | hy
  · exact Nat.le_trans (h y hy) hb
  · rw [hy]; exact hc
theorem map_set' (l : List Int) (k : Nat) (c : Int) : (l.map V.int).set k (V.int c) = (l.set k c).map V.int := by rw [List.map_set]
theorem kt_same_upd {H H' : Hp} {L : Addr} {o : HO} (s : Same H H') (n : H L = none) : Same H (upd H' L o) := same_upd s n
section
variable {P : Program} {w : World} {K : PySem.W.Frag} {mg : Str → Option Value} {base : Heap}
theorem scRTimes : FnScope ["_law_one", "_law_two", "_law_made", "_law_k", "_law_n"] ["_law_one", "_law_two"] (defScope sRTimes) := ⟨rfl, rfl, rfl, by decide +kernel, rfl, by decide +kernel, by decide +kernel⟩
theorem ok_rtimes (D : Def K mg "_law_row_times" sRTimes ["_law_one", "_law_two"]) (nb : Nb mg) (c1 : Cal P w K mg base "_law_trim" 1 ["_law_some_here"] spTrim) : Cal P w K mg base "_law_row_times" 2 ["_law_one", "_law_two"] spRTimes := by
  have c2 := c1.imp trim_int
  refine D.ok scRTimes (fun vs H Q E h => ?_) (fun f cdv A out s H vs Q E hr h => ?_)
  · obtain ⟨u, v, r, s, b1, b2, rfl, _⟩ := h; rfl
  obtain ⟨u, v, r, t, b1, b2, rfl, hu, hv, lr, lt, br, bt, b64, q⟩ := h
  refine ⟨_, pss_cons (ps_set (i := 2) scRTimes.nd rfl (Or.inl rfl) (pe_op op_rep (pe_lst (pa_cons pe_int pa_nil)) (pe_op op_add (pe_callB (id := "len") (r := rLn K) call_len_seq (by rfl) nb.len PySem.boot_len (pa_cons (pv 0) pa_nil)) (pe_callB (id := "len") (r := rLn K) call_len_seq (by rfl) nb.len PySem.boot_len (pa_cons (pv 1) pa_nil)))))
    (pss_cons (ps_for PassesOwn.never rfl (pi_range1 (by rfl) nb.rng (pa_cons (pe_callB (id := "len") (r := rLn K) call_len_seq (by rfl) nb.len PySem.boot_len (pa_cons (pv 0) pa_nil)) pa_nil)) (pg_name (i := 3) scRTimes.nd rfl (Or.inl rfl))
      (pss_one (ps_for PassesOwn.never rfl (pi_range1 (by rfl) nb.rng (pa_cons (pe_callB (id := "len") (r := rLn K) call_len_seq (by rfl) nb.len PySem.boot_len (pa_cons (pv 1) pa_nil)) pa_nil)) (pg_name (i := 4) scRTimes.nd rfl (Or.inl rfl))
        (pss_one (ps_asg (pe_op op_add (pe_ix ix_list (pv 2) (pe_op op_add (pv 3) (pv 4)) (fun _ _ => rfl)) (pe_op op_mulW (pe_ix ix_tup (pv 0) (pv 3) (fun _ _ => rfl)) (pe_ix ix_tup (pv 1) (pv 4) (fun _ _ => rfl))))
          (pg_sub (pv 2) (pe_op op_add (pv 3) (pv 4)) set_list))))))
    (pss_one (ps_ret (pe_cal c2 hr (by decide) (by rfl) (pa_cons (pv 2) pa_nil))))), ?_⟩
  walk_at "rd"
  obtain ⟨pu, rfl, eu⟩ := hu
  obtain ⟨pw, rfl, ev⟩ := hv
  refine ⟨sz (by simp), fun L0 nL0 => ?_⟩
  have s0 := same_new (o := .lst [.int 0]) nL0
  refine ⟨.ref pu, rfl, pu, _, rfl, .inr (SqT.of (s0 _ _ eu)), .ref pw, rfl, pw, _, rfl, .inr (SqT.of (s0 _ _ ev)), _, _, rfl, rfl, L0, _, _, rfl, rfl, upd_same, by rw [List.length_map]; omega, by rw [List.length_map, List.length_map]; omega, ?_, fun L nL => ?_⟩
  · have := sz (n := ((r.map V.int).length + (t.map V.int).length)) (by rw [List.length_map, List.length_map]; omega)
    show 1 * _ ≤ _
    rw [Nat.one_mul]
    omega
  have s1 := s0.trans (same_new (o := .lst (List.replicate ((((r.map V.int).length : Nat) : Int) + (((t.map V.int).length : Nat) : Int)).toNat [V.int 0]).flatten) nL)
  have nL' : H L = none := s0.free nL
  have eL : upd (upd H L0 (.lst [.int 0])) L (.lst (List.replicate ((((r.map V.int).length : Nat) : Int) + (((t.map V.int).length : Nat) : Int)).toNat [V.int 0]).flatten) L = some (.lst ((List.replicate (r.length + t.length) (0 : Int)).map V.int)) := by
    rw [upd_same, flat_one, List.map_replicate, List.length_map, List.length_map]
    congr 3
  generalize upd (upd H L0 (.lst [.int 0])) L _ = H1 at s1 eL ⊢
  refine ⟨.ref pu, rfl, pu, _, rfl, .inr (SqT.of (s1 _ _ eu)), ((r.map V.int).length : Int), rfl, by omega, by rw [List.length_map]; omega, ?_⟩
  rw [show (((r.map V.int).length : Nat) : Int).toNat = r.length from by rw [List.length_map]; omega]
  refine for_rng (lo := 0) (n := r.length) (fun i σ H' => ∃ (x3 x4 : Option V) (l : List Int), σ = [some (.ref pu), some (.ref pw), some (.ref L), x3, x4] ∧ Same H H' ∧ H' L = some (.lst (l.map V.int)) ∧ l.length = r.length + t.length ∧ SB (i * t.length * (b1 * b2)) l ∧ ∀ k, g l k = S i (fun a => if a ≤ k then g r a * g t (k - a) else 0)) ?_ ?_ ?_
  · exact ⟨none, none, _, rfl, s1, eL, by simp, fun c hc => by rw [(List.mem_replicate.mp hc).2]; simp, fun k => by
      unfold g
      rw [List.getD_eq_getElem?_getD, List.getElem?_replicate]
      split <;> rfl⟩
  · rintro i σ H2 hi ⟨x3, x4, l, rfl, s2, e2, ll, bl, cl⟩
    walk_at "rd"
    refine ⟨.ref pw, rfl, pw, _, rfl, .inr (SqT.of (s2 _ _ ev)), ((t.map V.int).length : Int), rfl, by omega, by rw [List.length_map]; omega, ?_⟩
    rw [show (((t.map V.int).length : Nat) : Int).toNat = t.length from by rw [List.length_map]; omega]
    refine for_rng (lo := 0) (n := t.length) (fun j σ H' => ∃ (x4 : Option V) (l : List Int), σ = [some (.ref pu), some (.ref pw), some (.ref L), some (.int (0 + (i : Int))), x4] ∧ Same H H' ∧ H' L = some (.lst (l.map V.int)) ∧ l.length = r.length + t.length ∧ SB ((i * t.length + j) * (b1 * b2)) l ∧ ∀ k, g l k = S i (fun a => if a ≤ k then g r a * g t (k - a) else 0) + (if i ≤ k ∧ k - i < j then g r i * g t (k - i) else 0)) ?_ ?_ ?_
    · exact ⟨x4, l, rfl, s2, e2, ll, bl, fun k => by rw [cl k, if_neg (by omega), Int.add_zero]⟩
    · rintro j σ H3 hj ⟨x4, l, rfl, s3, e3, ll, bl, cl⟩
      walk_at "rd"
      rw [Int.zero_add, Int.zero_add]
      have hij : i + j < l.length := by omega
      have ci := sb_get br i
      have cj := sb_get bt j
      have gl : (l.map V.int)[i + j]? = some (.int (l.getD (i + j) 0)) := by rw [List.getElem?_map, List.getD_eq_getElem?_getD, List.getElem?_eq_getElem hij]; rfl
      have gr : (r.map V.int)[i]? = some (.int (r.getD i 0)) := by rw [List.getElem?_map, List.getD_eq_getElem?_getD, List.getElem?_eq_getElem hi]; rfl
      have gt : (t.map V.int)[j]? = some (.int (t.getD j 0)) := by rw [List.getElem?_map, List.getD_eq_getElem?_getD, List.getElem?_eq_getElem hj]; rfl
      have ij : (i : Int) + (j : Int) = ((i + j : Nat) : Int) := by omega
      refine ⟨.ref L, rfl, .int i, rfl, .int j, rfl, i, j, rfl, rfl, ?_⟩
      walk_at "rd"
      rw [ij]
      refine ⟨L, _, _, _, rfl, rfl, SqL.of e3, atI_nat gl, .ref pu, rfl, .int i, rfl, pu, _, _, _, rfl, rfl, SqT.of (s3 _ _ eu), atI_nat gr, .ref pw, rfl, .int j, rfl, pw, _, _, _, rfl, rfl, SqT.of (s3 _ _ ev), atI_nat gt, _, _, rfl, rfl, wide_mul (a := 900) (b := 900) (Nat.lt_of_le_of_lt (sb_get br i) b64.1) (Nat.lt_of_le_of_lt (sb_get bt j) b64.2) (by decide) (by decide) (by decide), _, _, rfl, rfl, .ref L, rfl, .int i, rfl, .int j, rfl, i, j, rfl, rfl, ?_⟩
      walk_at "rd"
      rw [ij]
      refine ⟨L, _, _, i + j, rfl, rfl, e3, Evl.ixN_nat (by rw [List.length_map]; exact hij), some (.int j), l.set (i + j) (l.getD (i + j) 0 + r.getD i 0 * t.getD j 0), rfl, same_upd s3 nL', ?_, by rw [List.length_set]; exact ll, ?_, fun k => ?_⟩
      · rw [upd_same, map_set']
      · refine sb_set bl ?_ ?_
        · refine Nat.le_trans (Int.natAbs_add_le _ _) ?_
          rw [Int.natAbs_mul, ← Nat.add_assoc, Nat.add_mul (i * t.length + j), Nat.one_mul]
          exact Nat.add_le_add (sb_get bl _) (Nat.mul_le_mul ci cj)
        · exact Nat.mul_le_mul_right _ (by omega)
      · rw [g_set hij, cl k]
        by_cases c : k = i + j
        · subst c
          rw [if_pos rfl, show l.getD (i + j) 0 = g l (i + j) from rfl, cl (i + j), if_neg (by omega), if_pos (by omega), Int.add_zero, show i + j - i = j from by omega]
        · rw [if_neg c]
          congr 1
          by_cases c2 : i ≤ k ∧ k - i < j
          · rw [if_pos c2, if_pos (by omega)]
          · rw [if_neg c2, if_neg (by omega)]
    · rintro σ H3 ⟨x4, l, rfl, s3, e3, ll, bl, cl⟩
      refine ⟨_, x4, l, rfl, s3, e3, ll, by rw [Nat.add_mul i 1, Nat.one_mul]; exact bl, fun k => ?_⟩
      rw [cl k, S]
      congr 1
      by_cases c : i ≤ k
      · rw [if_pos c]
        by_cases c2 : k - i < t.length
        · rw [if_pos ⟨c, c2⟩]
        · rw [if_neg (by omega), g_none (show t.length ≤ k - i by omega), Int.mul_zero]
      · rw [if_neg c, if_neg (by omega)]
  · rintro σ H2 ⟨x3, x4, l, rfl, s2, e2, ll, bl, cl⟩
    refine ⟨.ref L, rfl, L, l, rfl, e2, fun z H3 s3 r3 => q z _ H3 (s2.trans s3) r3 (okR_trim _) ?_ (sb_trim bl) fun k => by rw [g_trim, cl k, cv_loop (fun i hi => g_none hi)]⟩
    have : (trimI l).length ≤ l.length := trimBy_len _ l
    omega
end
end K25

set_option Elab.async false
set_option linter.all false
set_option maxRecDepth 100000
set_option maxHeartbeats 4000000
local macro_rules | `(tactic| walk_at "rd") => `(tactic| dsimp only [Evl.tCut, L2.tSeq, L2.tNext, L2.tRet, L2.tRetN, L2.tAsg, L2.gName, L2.tIfS, L2.tDrop, L2.tCons, L2.tNil, L2.tC, L2.tVar, L2.tCB, L2.tAndV, L2.tOrV, L2.tNotV, L2.tB, L2.tTest, L2.tOp, L2.tUn, L2.tNot, L2.tAnd, L2.tOr, L2.tIf, L2.tCall, L2.tTup, L2.tLst, L2.tNotT, L2.tYes, L2.gTup, L2.gCons, L2.gNil, L2.gSub, L2.tBM0, L2.tBM, L2.tWhile, L2.tFor, L2.iRng1, L2.tPar, L2.tPar3, L2.tSl, L2.tNoPart, L2.tPart, Tw.tRevT])
namespace K25
open PySem PySem.Spec PyProof.Rows L2 Tw
def cv2 (p q : List (List Int)) (i j : Nat) : Int := S (i + 1) fun a => cv (co p a) (co q (i - a)) j
theorem cv2_loop {p q : List (List Int)} (i j : Nat) : S p.length (fun a => if a ≤ i then cv (co p a) (co q (i - a)) j else 0) = cv2 p q i j := by
  have e1 : S (max p.length (i + 1)) (fun a => if a ≤ i then cv (co p a) (co q (i - a)) j else 0) = S p.length (fun a => if a ≤ i then cv (co p a) (co q (i - a)) j else 0) := S_more (by omega) fun a ha => by
    rw [cv_zero (fun k => by unfold co; rw [rw_none ha]; rfl)]
    split <;> rfl
  have e2 : S (max p.length (i + 1)) (fun a => if a ≤ i then cv (co p a) (co q (i - a)) j else 0) = S (i + 1) (fun a => if a ≤ i then cv (co p a) (co q (i - a)) j else 0) := S_more (by omega) fun a ha => by
    rw [if_neg (by omega)]
  rw [← e1, e2]
  exact S_ext _ fun a ha => by rw [if_pos (by omega)]
def spPTimes : Sp := fun vs H Q _ => ∃ u v p q b1 b2, vs = [u, v] ∧ Po H u p ∧ Po H v q ∧ (∃ a, We a H) ∧ Bd 4 b1 p ∧ Bd 4 b2 q ∧ (b1 < 2 ^ 900 ∧ b2 < 2 ^ 900) ∧ ∀ z t H', Same H H' → Po H' z t → okP t → Bd 8 (16 * (16 * (b1 * b2))) t → (∀ i j, co t i j = cv2 p q i j) → Q z H'
section
variable {P : Program} {w : World} {K : PySem.W.Frag} {mg : Str → Option Value} {base : Heap}
theorem scPTimes : FnScope ["_law_one", "_law_two", "_law_made", "_law_k", "_law_n"] ["_law_one", "_law_two"] (defScope sPTimes) := ⟨rfl, rfl, rfl, by decide +kernel, rfl, by decide +kernel, by decide +kernel⟩
theorem ok_ptimes (D : Def K mg "_law_poly_times" sPTimes ["_law_one", "_law_two"]) (nb : Nb mg) (c1 : Cal P w K mg base "_law_trim" 1 ["_law_some_here"] spTrim) (c3 : Cal P w K mg base "_law_row_sum" 2 ["_law_one", "_law_two"] spRSum) (c4 : Cal P w K mg base "_law_row_times" 2 ["_law_one", "_law_two"] spRTimes) :
    Cal P w K mg base "_law_poly_times" 3 ["_law_one", "_law_two"] spPTimes := by
  have c2 := c1.imp trim_rows
  refine D.ok scPTimes (fun vs H Q E h => ?_) (fun f cdv A out s H vs Q E hr h => ?_)
  · obtain ⟨u, v, r, s, b1, b2, rfl, _⟩ := h; rfl
  obtain ⟨u, v, p, q, b1, b2, rfl, hu, hv, ⟨wa, hw⟩, bp, bq, b64, hQ⟩ := h
  have lq := bq.1
  refine ⟨_, pss_cons (ps_set (i := 2) scPTimes.nd rfl (Or.inl rfl) (pe_op op_rep (pe_lst (pa_cons (pe_tup pa_nil) pa_nil)) (pe_op op_add (pe_callB (id := "len") (r := rLn K) call_len_seq (by rfl) nb.len PySem.boot_len (pa_cons (pv 0) pa_nil)) (pe_callB (id := "len") (r := rLn K) call_len_seq (by rfl) nb.len PySem.boot_len (pa_cons (pv 1) pa_nil)))))
    (pss_cons (ps_for PassesOwn.never rfl (pi_range1 (by rfl) nb.rng (pa_cons (pe_callB (id := "len") (r := rLn K) call_len_seq (by rfl) nb.len PySem.boot_len (pa_cons (pv 0) pa_nil)) pa_nil)) (pg_name (i := 3) scPTimes.nd rfl (Or.inl rfl))
      (pss_one (ps_for PassesOwn.never rfl (pi_range1 (by rfl) nb.rng (pa_cons (pe_callB (id := "len") (r := rLn K) call_len_seq (by rfl) nb.len PySem.boot_len (pa_cons (pv 1) pa_nil)) pa_nil)) (pg_name (i := 4) scPTimes.nd rfl (Or.inl rfl))
        (pss_one (ps_asg (pe_cal c3 hr (by decide) (by rfl) (pa_cons (pe_ix ix_list (pv 2) (pe_op op_add (pv 3) (pv 4)) (fun _ _ => rfl)) (pa_cons (pe_cal c4 hr (by decide) (by rfl) (pa_cons (pe_ix ix_tup (pv 0) (pv 3) (fun _ _ => rfl)) (pa_cons (pe_ix ix_tup (pv 1) (pv 4) (fun _ _ => rfl)) pa_nil))) pa_nil)))
          (pg_sub (pv 2) (pe_op op_add (pv 3) (pv 4)) set_list))))))
    (pss_one (ps_ret (pe_cal c2 hr (by decide) (by rfl) (pa_cons (pv 2) pa_nil))))), ?_⟩
  walk_at "rd"
  obtain ⟨pu, xs, rfl, eu, hx⟩ := hu
  obtain ⟨pw, ws, rfl, ev, hy⟩ := hv
  have lp := bp.1
  have lx := hx.1
  have ly := hy.1
  refine ⟨sz (by simp), fun e0 ne0 => ?_⟩
  have s00 := same_new (o := .tup []) ne0
  have re0 : Ro (upd H e0 (.tup [])) (.ref e0) [] := ⟨e0, rfl, upd_same⟩
  generalize upd H e0 (.tup []) = H0 at s00 re0 ⊢
  refine ⟨sz (by simp), fun L0 nL0 => ?_⟩
  have s0 := s00.trans (same_new (o := .lst [.ref e0]) nL0)
  refine ⟨.ref pu, rfl, pu, _, rfl, .inr (SqT.of (s0 _ _ eu)), .ref pw, rfl, pw, _, rfl, .inr (SqT.of (s0 _ _ ev)), _, _, rfl, rfl, L0, _, _, rfl, rfl, upd_same, by omega, by omega, ?_, fun L nL => ?_⟩
  · have := sz (n := (xs.length + ws.length)) (by omega)
    show 1 * _ ≤ _
    rw [Nat.one_mul]
    omega
  have s1 := s0.trans (same_new (o := .lst (List.replicate (((xs.length : Nat) : Int) + ((ws.length : Nat) : Int)).toNat [V.ref e0]).flatten) nL)
  have nL' : H L = none := s0.free nL
  have eL : upd (upd H0 L0 (.lst [.ref e0])) L (.lst (List.replicate (((xs.length : Nat) : Int) + ((ws.length : Nat) : Int)).toNat [V.ref e0]).flatten) L = some (.lst (List.replicate (p.length + q.length) (V.ref e0))) := by
    rw [upd_same, flat_one, lx, ly]
    congr 3
  have rL : RoA (upd (upd H0 L0 (.lst [.ref e0])) L (.lst (List.replicate (((xs.length : Nat) : Int) + ((ws.length : Nat) : Int)).toNat [V.ref e0]).flatten)) (List.replicate (p.length + q.length) (V.ref e0)) (List.replicate (p.length + q.length) []) := by
    refine ⟨by simp, fun i v e => ?_⟩
    rw [List.getElem?_replicate] at e
    split at e
    · cases e
      refine ⟨[], by rw [List.getElem?_replicate, if_pos ‹_›], ?_⟩
      exact re0.kt ((Kt.of (same_new nL0)).trans (Kt.of (same_new nL)))
    · cases e
  generalize upd (upd H0 L0 (.lst [.ref e0])) L _ = H1 at s1 eL rL ⊢
  refine ⟨.ref pu, rfl, pu, _, rfl, .inr (SqT.of (s1 _ _ eu)), (xs.length : Int), rfl, by omega, by omega, ?_⟩
  rw [show ((xs.length : Nat) : Int).toNat = p.length from by omega]
  refine for_rng (lo := 0) (n := p.length) (fun i σ H' => ∃ (x3 x4 : Option V) (ys : List V) (rs : List (List Int)), σ = [some (.ref pu), some (.ref pw), some (.ref L), x3, x4] ∧ Same H H' ∧ H' L = some (.lst ys) ∧ RoA H' ys rs ∧ rs.length = p.length + q.length ∧ (∀ r ∈ rs, okR r ∧ r.length ≤ 8 ∧ SB (i * q.length * (16 * (b1 * b2))) r) ∧ ∀ i' j', co rs i' j' = S i (fun a => if a ≤ i' then cv (co p a) (co q (i' - a)) j' else 0)) ?_ ?_ ?_
  · refine ⟨none, none, _, _, rfl, s1, eL, rL, by simp, fun r hr => ?_, fun i' j' => ?_⟩
    · rw [(List.mem_replicate.mp hr).2]
      exact ⟨fun c hc => by simp at hc, by simp, fun c hc => by simp at hc⟩
    · unfold co rw'
      rw [List.getD_eq_getElem?_getD, List.getElem?_replicate]
      split <;> rfl
  · rintro i σ H2 hi ⟨x3, x4, ys, rs, rfl, s2, e2, r2, ll, bl, cl⟩
    walk_at "rd"
    refine ⟨.ref pw, rfl, pw, _, rfl, .inr (SqT.of (s2 _ _ ev)), (ws.length : Int), rfl, by omega, by omega, ?_⟩
    rw [show ((ws.length : Nat) : Int).toNat = q.length from by omega]
    refine for_rng (lo := 0) (n := q.length) (fun j σ H' => ∃ (x4 : Option V) (ys : List V) (rs : List (List Int)), σ = [some (.ref pu), some (.ref pw), some (.ref L), some (.int (0 + (i : Int))), x4] ∧ Same H H' ∧ H' L = some (.lst ys) ∧ RoA H' ys rs ∧ rs.length = p.length + q.length ∧ (∀ r ∈ rs, okR r ∧ r.length ≤ 8 ∧ SB ((i * q.length + j) * (16 * (b1 * b2))) r) ∧ ∀ i' j', co rs i' j' = S i (fun a => if a ≤ i' then cv (co p a) (co q (i' - a)) j' else 0) + (if i ≤ i' ∧ i' - i < j then cv (co p i) (co q (i' - i)) j' else 0)) ?_ ?_ ?_
    · exact ⟨x4, ys, rs, rfl, s2, e2, r2, ll, bl, fun i' j' => by rw [cl i' j', if_neg (by omega), Int.add_zero]⟩
    · rintro j σ H3 hj ⟨x4, ys, rs, rfl, s3, e3, r3, ll, bl, cl⟩
      walk_at "rd"
      rw [Int.zero_add, Int.zero_add]
      have hij : i + j < rs.length := by omega
      have ij : (i : Int) + (j : Int) = ((i + j : Nat) : Int) := by omega
      obtain ⟨y, gy, ry⟩ := r3.get hij
      obtain ⟨a, ga, ra⟩ := (hx.kt (Kt.of s3)).get hi
      obtain ⟨b, gb, rb⟩ := (hy.kt (Kt.of s3)).get hj
      have my := bl rs[i + j] (List.getElem_mem _)
      have ma := bp.2 p[i] (List.getElem_mem _)
      have mb := bq.2 q[j] (List.getElem_mem _)
      refine ⟨.ref L, rfl, .int i, rfl, .int j, rfl, i, j, rfl, rfl, ?_⟩
      walk_at "rd"
      rw [ij]
      refine ⟨L, _, _, y, rfl, rfl, SqL.of e3, atI_nat gy, .ref pu, rfl, .int i, rfl, pu, _, _, a, rfl, rfl, SqT.of (s3 _ _ eu), atI_nat ga, .ref pw, rfl, .int j, rfl, pw, _, _, b, rfl, rfl, SqT.of (s3 _ _ ev), atI_nat gb, ?_⟩
      refine ⟨a, b, p[i], q[j], b1, b2, rfl, ra, rb, by omega, by omega, ma.2, mb.2, b64, fun z t H4 s4 rz okz lz bz cz => ?_⟩
      have bz2 : SB (16 * (b1 * b2)) t := bz.up (Nat.mul_le_mul_right _ (show p[i].length * q[j].length ≤ 16 from Nat.mul_le_mul ma.1 mb.1))
      refine ⟨y, z, rs[i + j], t, _, _, rfl, ry.kt (Kt.of s4), rz, by omega, by omega, my.2.2, bz2, fun z2 t2 H5 s5 rz2 okz2 lz2 bz2 cz2 => ?_⟩
      refine ⟨.ref L, rfl, .int i, rfl, .int j, rfl, i, j, rfl, rfl, ?_⟩
      walk_at "rd"
      rw [ij]
      have e5 := (s4.trans s5) _ _ e3
      refine ⟨L, _, _, i + j, rfl, rfl, e5, Evl.ixN_nat (by rw [r3.1]; exact hij), some (.int j), ys.set (i + j) z2, rs.set (i + j) t2, rfl, same_upd (s3.trans (s4.trans s5)) nL', upd_same, ?_, by rw [List.length_set]; exact ll, fun r hr => ?_, fun i' j' => ?_⟩
      · exact ((r3.kt (Kt.of (s4.trans s5))).set (i + j) rz2).kt (kt_upd e5)
      · have eb : (i * q.length + j) * (16 * (b1 * b2)) + 16 * (b1 * b2) = (i * q.length + (j + 1)) * (16 * (b1 * b2)) := by
          rw [← Nat.add_assoc, Nat.add_mul (i * q.length + j), Nat.one_mul]
        rcases List.mem_or_eq_of_mem_set hr with hr | hr
        · have m := bl r hr
          exact ⟨m.1, m.2.1, m.2.2.up (by omega)⟩
        · rw [hr]
          exact ⟨okz2, by omega, by rw [← eb]; exact bz2⟩
      · unfold co
        rw [rw_set hij]
        have ci := cl i' j'
        unfold co at ci
        by_cases c : i' = i + j
        · subst c
          rw [if_pos rfl, cz2 j', cz j', ← rw_some hij, ci, if_neg (by omega), if_pos (by omega), Int.add_zero, show i + j - i = j from by omega, rw_some hi, rw_some hj]
        · rw [if_neg c, ci]
          congr 1
          by_cases c2 : i ≤ i' ∧ i' - i < j
          · rw [if_pos c2, if_pos (by omega)]
          · rw [if_neg c2, if_neg (by omega)]
    · rintro σ H3 ⟨x4, ys, rs, rfl, s3, e3, r3, ll, bl, cl⟩
      refine ⟨_, x4, ys, rs, rfl, s3, e3, r3, ll, by rw [Nat.add_mul i 1, Nat.one_mul]; exact bl, fun i' j' => ?_⟩
      rw [cl i' j', S]
      congr 1
      by_cases c : i ≤ i'
      · rw [if_pos c]
        by_cases c2 : i' - i < q.length
        · rw [if_pos ⟨c, c2⟩]
        · rw [if_neg (by omega), cv_comm, cv_zero (fun k => by unfold co; rw [rw_none (show q.length ≤ i' - i by omega)]; rfl)]
      · rw [if_neg c, if_neg (by omega)]
  · rintro σ H2 ⟨x3, x4, ys, rs, rfl, s2, e2, r2, ll, bl, cl⟩
    refine ⟨.ref L, rfl, L, ys, rs, rfl, e2, r2, ⟨wa, hw.to s2⟩, fun z H3 s3 r3 => hQ z _ H3 (s2.trans s3) r3 (okP_trim fun r hr => (bl r hr).1) ⟨?_, fun r hr => ?_⟩ fun i' j' => by unfold co; rw [rw_trim]; exact (cl i' j').trans (cv2_loop i' j')⟩
    · have : (trimP rs).length ≤ rs.length := trimBy_len _ rs
      omega
    · have m := bl r (trimBy_mem _ _ hr)
      refine ⟨by omega, m.2.2.up ?_⟩
      refine Nat.mul_le_mul_right _ ?_
      have := Nat.mul_le_mul lp lq
      omega
end
end K25

set_option Elab.async false
set_option linter.all false
set_option maxRecDepth 100000
set_option maxHeartbeats 4000000
/-! // of ints of any size -/
namespace K25
open PySem PySem.Spec PyProof.Rows L2 Tw
/-- nobody looks on while a great division runs -/
def Se (X : Cx) : Prop := X.base.NoSeer ∧ X.prog.given.tree = none ∧ ∃ e l, X.stack = e :: l ∧ e.scope.isGenerator = false ∧ e.scope.isCoroutine = false ∧ e.builtins = builtinsNs ∧ e.globals = mainGlobals
theorem se_mk {X : Cx} {e : Env} {l : List Env} (hN : X.base.NoSeer) (ht : X.prog.given.tree = none) (hs : X.stack = e :: l) (h : e.scope.isGenerator = false ∧ e.scope.isCoroutine = false ∧ e.builtins = builtinsNs ∧ e.globals = mainGlobals) : Se X := ⟨hN, ht, e, l, hs, h⟩
theorem op_fdivP {X : Cx} {k : Nat} (h : Se X) (hr : Room k X.A) (hk : 32 ≤ k) : OpR X (binaryOp .FloorDiv) (rI (fun _ j => j ≠ 0) fun i j => .int (i.fdiv j)) := by
  intro pins s σ H x y v u Q I rx ry h'
  obtain ⟨i, j, rfl, rfl, hc, q⟩ := h'
  obtain ⟨t, rfl⟩ := rx
  obtain ⟨t', rfl⟩ := ry
  obtain ⟨hN, ht, e, l, hs, hg, hco, hb, hgl⟩ := h
  have hfr : X.A.frames = some (e :: l) := by rw [I.ok.frames, hs]
  refine floordiv_int hc ⟨.int (i.fdiv j), H, I.tok _, ⟨_, rfl⟩, q⟩ (.inr ?_)
  exact PylongRoom.of I.nolimit (by have := hr.dp; show _ + 100 < _; omega) (SeerAt.of (hN.keeps fun b o e => (I.bs b o e).1) ht hfr hg hco hb hgl)
end K25

set_option Elab.async false
set_option linter.all false
set_option maxRecDepth 100000
set_option maxHeartbeats 4000000
/-! values of rows at whole numbers, sizes, expressions over rows -/
namespace K25
/-- the value -/
def ev (x : Int) : List Int → Int
  | [] => 0
  | c :: r => c + x * ev x r
/-- the sum of the sizes -/
def nm : List Int → Nat
  | [] => 0
  | c :: r => c.natAbs + nm r
def addR : List Int → List Int → List Int
  | [], s => s
  | r, [] => r
  | a :: r, b :: s => (a + b) :: addR r s
def sclR (c : Int) (r : List Int) : List Int := r.map (c * ·)
def mulR : List Int → List Int → List Int
  | [], _ => []
  | a :: r, s => addR (sclR a s) (0 :: mulR r s)
theorem addR_nil (r : List Int) : addR r [] = r := by cases r <;> rfl
theorem ev_add (x : Int) : ∀ r s : List Int, ev x (addR r s) = ev x r + ev x s
  | [], s => by rw [addR]; simp [ev]
  | a :: r, [] => by rw [addR_nil]; simp [ev]
  | a :: r, b :: s => by rw [addR, ev, ev, ev, ev_add x r s, Int.mul_add]; omega
theorem ev_scl (x c : Int) : ∀ r : List Int, ev x (sclR c r) = c * ev x r
  | [] => by simp [sclR, ev]
  | a :: r => by
    have := ev_scl x c r
    unfold sclR at this ⊢
    rw [List.map_cons, ev, ev, this, Int.mul_add, Int.mul_left_comm]
theorem ev_mul (x : Int) : ∀ r s : List Int, ev x (mulR r s) = ev x r * ev x s
  | [], s => by simp [mulR, ev]
  | a :: r, s => by rw [mulR, ev_add, ev_scl, ev, ev, ev_mul x r s, Int.add_mul, Int.mul_assoc]; omega
theorem nm_add : ∀ r s : List Int, nm (addR r s) ≤ nm r + nm s
  | [], s => by rw [addR]; simp [nm]
  | a :: r, [] => by rw [addR_nil]; simp [nm]
  | a :: r, b :: s => by
    have := nm_add r s
    rw [addR, nm, nm, nm]
    omega
theorem nm_scl (c : Int) : ∀ r : List Int, nm (sclR c r) = c.natAbs * nm r
  | [] => by simp [sclR, nm]
  | a :: r => by
    have := nm_scl c r
    unfold sclR at this ⊢
    rw [List.map_cons, nm, nm, this, Int.natAbs_mul, Nat.mul_add]
theorem nm_mul : ∀ r s : List Int, nm (mulR r s) ≤ nm r * nm s
  | [], s => by simp [mulR, nm]
  | a :: r, s => by
    have h1 := nm_add (sclR a s) (0 :: mulR r s)
    have h2 := nm_mul r s
    rw [mulR, nm, Nat.add_mul]
    rw [nm_scl] at h1
    have h3 : nm (0 :: mulR r s) = nm (mulR r s) := by rw [nm]; simp
    omega
theorem nm_mem : ∀ {r : List Int} {c : Int}, c ∈ r → c.natAbs ≤ nm r
  | a :: r, c, h => by
    rw [nm]
    rcases List.mem_cons.mp h with rfl | h
    · omega
    · have := nm_mem h; omega
theorem nm_pos {r : List Int} (h : okR r) (e : r ≠ []) : 1 ≤ nm r := by
  obtain ⟨c, hc⟩ : ∃ c, r.getLast? = some c := by
    cases h : r.getLast? with
    | none => exact absurd (List.getLast?_eq_none_iff.mp h) e
    | some c => exact ⟨c, rfl⟩
  have := h c hc
  have := nm_mem (List.mem_of_getLast? hc)
  omega
/-! numbers of such rows -/
theorem g_add : ∀ (r s : List Int) (k : Nat), g (addR r s) k = g r k + g s k
  | [], s, k => by rw [addR, show g [] k = 0 from rfl]; omega
  | a :: r, [], k => by rw [addR_nil, show g [] k = 0 from rfl]; omega
  | a :: r, b :: s, 0 => rfl
  | a :: r, b :: s, k + 1 => by
    have := g_add r s k
    show g (addR r s) k = g r k + g s k
    exact this
theorem g_scl (c : Int) : ∀ (r : List Int) (k : Nat), g (sclR c r) k = c * g r k
  | [], k => by show (0 : Int) = c * 0; simp
  | a :: r, 0 => rfl
  | a :: r, k + 1 => g_scl c r k
theorem g_mul : ∀ (r s : List Int) (k : Nat), g (mulR r s) k = cv (g r) (g s) k
  | [], s, k => (cv_zero (f := g []) (fun i => rfl) k).symm
  | a :: r, s, k => by
    rw [mulR, g_add, g_scl]
    cases k with
    | zero =>
      show a * g s 0 + 0 = cv (g (a :: r)) (g s) 0
      unfold cv
      rw [S, S]
      show _ = 0 + a * g s 0
      omega
    | succ k =>
      show a * g s (k + 1) + g (mulR r s) k = cv (g (a :: r)) (g s) (k + 1)
      rw [g_mul r s k]
      unfold cv
      rw [S_shift (n := k + 1)]
      show _ = a * g s (k + 1 - 0) + _
      rw [Nat.sub_zero]
      congr 1
      refine S_ext _ fun i hi => ?_
      show g r i * g s (k - i) = g r i * g s (k + 1 - (i + 1))
      rw [Nat.add_sub_add_right]
theorem ev_ext (x : Int) : ∀ {r s : List Int}, (∀ k, g r k = g s k) → ev x r = ev x s
  | [], [], _ => rfl
  | [], b :: s, h => by
    have h0 : (0 : Int) = b := h 0
    have ih := ev_ext x (r := []) (s := s) fun k => h (k + 1)
    rw [ev, ev, ← ih, ← h0, ev]; simp
  | a :: r, [], h => by
    have h0 : a = (0 : Int) := h 0
    have ih := ev_ext x (r := r) (s := []) fun k => h (k + 1)
    rw [ev, ev, ih, h0, ev]; simp
  | a :: r, b :: s, h => by
    have h0 : a = b := h 0
    rw [ev, ev, h0, ev_ext x (r := r) (s := s) fun k => h (k + 1)]
theorem ev_trim (x : Int) (r : List Int) : ev x (trimI r) = ev x r := ev_ext x (g_trim r)
theorem nm_trim : ∀ r : List Int, nm (trimI r) ≤ nm r
  | [] => Nat.le_refl _
  | a :: r => by
    have ih := nm_trim r
    unfold trimI at ih ⊢
    rw [trimBy]
    cases e : trimBy (fun c : Int => c == 0) r with
    | nil =>
      dsimp only
      split
      · exact Nat.zero_le _
      · rw [nm, nm]; simp [nm]
    | cons b l => rw [e] at ih; dsimp only; rw [nm, nm.eq_def (a :: r)]; dsimp only; omega
/-- a value 0 of small numbers -/
theorem ev_zero {X : Nat} : ∀ {r : List Int}, (∀ c ∈ r, c.natAbs < X) → ev (X : Int) r = 0 → ∀ c ∈ r, c = 0
  | [], _, _, c, h => by cases h
  | a :: r, hb, h, c, hc => by
    rw [ev] at h
    have h1 := hb a (List.mem_cons_self ..)
    have a0 : a = 0 := by
      have d : (X : Int) ∣ a := ⟨-ev (X : Int) r, by rw [Int.mul_neg]; omega⟩
      have d2 : X ∣ a.natAbs := by have := Int.natAbs_dvd_natAbs.mpr d; rwa [Int.natAbs_natCast] at this
      have := Nat.eq_zero_of_dvd_of_lt d2 h1
      omega
    have e0 : ev (X : Int) r = 0 := by
      rw [a0, Int.zero_add] at h
      rcases Int.mul_eq_zero.mp h with z | z
      · have : X = 0 := by omega
        omega
      · exact z
    rcases List.mem_cons.mp hc with rfl | hc
    · exact a0
    · exact ev_zero (fun c h => hb c (List.mem_cons_of_mem _ h)) e0 c hc
theorem okR_zero {r : List Int} (h : okR r) (z : ∀ c ∈ r, c = 0) : r = [] := by
  cases e : r.getLast? with
  | none => exact List.getLast?_eq_none_iff.mp e
  | some c => exact absurd (z c (List.mem_of_getLast? e)) (h c e)
/-- a row is known by its values -/
theorem ev_inj {r s : List Int} (hr : okR r) (hs : okR s) (h : ∀ x, ev x r = ev x s) : r = s := by
  have h1 : ∀ k, g (addR r (sclR (-1) s)) k = 0 := fun k => by
    have z := ev_zero (X := nm (addR r (sclR (-1) s)) + 1) (r := addR r (sclR (-1) s)) (fun c hc => by have := nm_mem hc; omega) (by rw [ev_add, ev_scl, h]; omega)
    rcases Nat.lt_or_ge k (addR r (sclR (-1) s)).length with c | c
    · rw [g_some c]; exact z _ (List.getElem_mem _)
    · exact g_none c
  refine row_ext hr hs fun k => ?_
  have := h1 k
  rw [g_add, g_scl] at this
  omega
theorem ev_ne {r : List Int} (h : okR r) (e : r ≠ []) {X : Nat} (hb : ∀ c ∈ r, c.natAbs < X) : ev (X : Int) r ≠ 0 := fun z => e (okR_zero h (ev_zero hb z))
theorem ev_le (X : Nat) (hX : 1 ≤ X) : ∀ {n : Nat} {r : List Int}, r.length ≤ n + 1 → (ev (X : Int) r).natAbs ≤ nm r * X ^ n
  | _, [], _ => by simp [ev]
  | 0, [a], _ => by simp [ev, nm]
  | 0, a :: b :: r, h => by simp at h
  | n + 1, a :: r, h => by
    have ih := ev_le X hX (n := n) (r := r) (by simpa using h)
    rw [ev, nm, Nat.add_mul, Nat.pow_succ]
    have h1 : (a + (X : Int) * ev (X : Int) r).natAbs ≤ a.natAbs + X * (ev (X : Int) r).natAbs := by
      refine Nat.le_trans (Int.natAbs_add_le ..) ?_
      rw [Int.natAbs_mul, Int.natAbs_natCast]
      exact Nat.le_refl _
    have h2 : X * (ev (X : Int) r).natAbs ≤ nm r * (X ^ n * X) := by
      rw [Nat.mul_comm X, ← Nat.mul_assoc]
      exact Nat.mul_le_mul_right _ ih
    have h3 : a.natAbs * 1 ≤ a.natAbs * (X ^ n * X) := Nat.mul_le_mul_left _ (Nat.mul_pos (Nat.pow_pos hX) hX)
    omega
/-! expressions -/
inductive Ex where
  | v (i : Nat)
  | k (c : Int)
  | add (a b : Ex)
  | mul (a b : Ex)
def Ex.int (ρ : Nat → Int) : Ex → Int
  | .v i => ρ i
  | .k c => c
  | .add a b => a.int ρ + b.int ρ
  | .mul a b => a.int ρ * b.int ρ
def Ex.row (ρ : Nat → List Int) : Ex → List Int
  | .v i => ρ i
  | .k c => [c]
  | .add a b => addR (a.row ρ) (b.row ρ)
  | .mul a b => mulR (a.row ρ) (b.row ρ)
def Ex.nrm (ρ : Nat → Nat) : Ex → Nat
  | .v i => ρ i
  | .k c => c.natAbs
  | .add a b => a.nrm ρ + b.nrm ρ
  | .mul a b => a.nrm ρ * b.nrm ρ
theorem Ex.ev (x : Int) (ρ : Nat → List Int) : ∀ e : Ex, K25.ev x (e.row ρ) = e.int fun i => K25.ev x (ρ i)
  | .v i => rfl
  | .k c => by show c + x * 0 = c; omega
  | .add a b => by rw [Ex.row, ev_add, Ex.ev x ρ a, Ex.ev x ρ b]; rfl
  | .mul a b => by rw [Ex.row, ev_mul, Ex.ev x ρ a, Ex.ev x ρ b]; rfl
theorem Ex.nm (ρ : Nat → List Int) : ∀ e : Ex, K25.nm (e.row ρ) ≤ e.nrm fun i => K25.nm (ρ i)
  | .v i => Nat.le_refl _
  | .k c => Nat.le_refl _
  | .add a b => Nat.le_trans (nm_add _ _) (Nat.add_le_add (Ex.nm ρ a) (Ex.nm ρ b))
  | .mul a b => Nat.le_trans (nm_mul _ _) (Nat.mul_le_mul (Ex.nm ρ a) (Ex.nm ρ b))
end K25

set_option Elab.async false
set_option linter.all false
set_option maxRecDepth 100000
set_option maxHeartbeats 4000000
/-! the program's chain of rests, as a plain function, and what it tells of a row beside its derivative -/
namespace K25
/-- the head -/
def hd (r : List Int) : Int := g r (r.length - 1)
def subAt : Nat → Int → List Int → List Int → List Int
  | 0, _, [], r => r
  | 0, _, _ :: _, [] => []
  | 0, t, b :: bs, c :: r => (c - t * b) :: subAt 0 t bs r
  | _ + 1, _, _, [] => []
  | n + 1, t, bs, c :: r => c :: subAt n t bs r
def frGo (bb : List Int) : Nat → List Int → List Int
  | 0, r => r
  | n + 1, r => frGo bb n (subAt n (hd r) bb.dropLast (r.dropLast.map fun c => hd bb * c))
def fr (row bb : List Int) : List Int := trimI (frGo bb (row.length - bb.length + 1) row)
def oh (h s : Int) : Nat → Int
  | 0 => h
  | k + 1 => if k % 2 = 0 then -(h * oh h s k).fdiv s else (h * oh h s k).fdiv s
def srGo : Nat → Nat → List (List Int) → List Int → List Int → Int → Int → Option (List (List Int))
  | 0, _, _, _, _, _, _ => none
  | f + 1, at_, found, upper, lower, scale, lead =>
    if lower = [] then some found else
    if hd lower = 0 ∨ at_ < lower.length then none else
    let low := lower.length - 1
    let own := oh (hd lower) scale (at_ - 1 - low)
    let found1 := if low < at_ - 1 then found.set low (lower.map fun n => (own * n).fdiv (hd lower)) else found
    if low = 0 then some found1 else
    if own = 0 then none else
    let rest := (fr upper lower).map fun n => (-own * n).fdiv (hd lower ^ (at_ - low) * scale * lead)
    srGo f low (found1.set (low - 1) rest) lower rest own (hd lower)
theorem fdiv_eq {x y z : Int} (h : y ≠ 0) (e : x = y * z) : x.fdiv y = z := by
  rw [e, Int.mul_fdiv_cancel_left _ h]
theorem trim_nil_of {S : List Int} (h : trimI S = []) : ∀ c ∈ S, c = 0 := fun c hc => by
  obtain ⟨k, hk, e⟩ := List.getElem_of_mem hc
  have := g_trim S k
  rw [h, g_some hk, e] at this
  exact this.symm
inductive Fa (R : Int → Int → Prop) : List Int → List Int → Prop
  | nil : Fa R [] []
  | cons {x s : Int} {L S : List Int} : R x s → Fa R L S → Fa R (x :: L) (s :: S)
theorem div_trim {own over : Int} (ho : over ≠ 0) (hw : own ≠ 0) : ∀ {L S : List Int}, Fa (fun x s => -own * x = over * s) L S → (trimI L).map (fun n => (-own * n).fdiv over) = trimI S
  | _, _, .nil => rfl
  | _, _, .cons (x := x) (s := s) (L := L) (S := S) h t => by
    have ih := div_trim ho hw t
    have z : x = 0 ↔ s = 0 := by
      constructor
      · intro e; rw [e, Int.mul_zero] at h
        rcases Int.mul_eq_zero.mp h.symm with q | q
        · exact absurd q ho
        · exact q
      · intro e; rw [e, Int.mul_zero] at h
        rcases Int.mul_eq_zero.mp h with q | q
        · omega
        · exact q
    unfold trimI at ih ⊢
    rw [trimBy, trimBy]
    cases e1 : trimBy (fun c : Int => c == 0) L with
    | nil =>
      rw [e1] at ih
      rw [← ih]
      dsimp only [List.map_nil]
      by_cases c : x = 0
      · rw [if_pos (by simp [c]), if_pos (by simp [z.mp c])]; rfl
      · have c' : ¬ s = 0 := fun q => c (z.mpr q)
        rw [if_neg (by simp [c]), if_neg (by simp [c'])]
        show [(-own * x).fdiv over] = [s]
        rw [fdiv_eq ho h]
    | cons b l =>
      rw [e1] at ih
      rw [← ih]
      show (-own * x).fdiv over :: List.map (fun n => (-own * n).fdiv over) (b :: l) = s :: List.map (fun n => (-own * n).fdiv over) (b :: l)
      rw [fdiv_eq ho h]
theorem trim_one {a : Int} (h : a ≠ 0) : trimI [a] = [a] := by simp [trimI, trimBy, h]
theorem trim_two {a b : Int} (h : b ≠ 0) : trimI [a, b] = [a, b] := by simp [trimI, trimBy, h]
theorem trim_three {a b c : Int} (h : c ≠ 0) : trimI [a, b, c] = [a, b, c] := by simp [trimI, trimBy, h]
theorem trim_z1 : trimI [0] = [] := by simp [trimI, trimBy]
theorem trim_z2 {a : Int} : trimI [a, 0] = trimI [a] := by simp [trimI, trimBy]
theorem trim_z3 {a b : Int} : trimI [a, b, 0] = trimI [a, b] := by
  by_cases h : b = 0
  · subst h; simp [trimI, trimBy]
  · simp [trimI, trimBy, h]
/-- S0 as the program tells it -/
def oneOr (s : Int) : List Int := if s = 0 then [] else [s]
def s0 (a b c d e : Int) : Int := -16*e*a^2 + d*b*a
def s1 (a b c d e : Int) : Int := -12*d*a^2 + 2*c*b*a
def s2 (a b c d e : Int) : Int := -8*c*a^2 + 3*b^2*a
def t0 (a b c d e : Int) : Int := -48*e*d*a^3 + 32*e*c*b*a^2 - 9*e*b^3*a + 3*d^2*b*a^2 - 4*d*c^2*a^2 + d*c*b^2*a
def t1 (a b c d e : Int) : Int := 32*e*c*a^3 - 12*e*b^2*a^2 - 36*d^2*a^3 + 28*d*c*b*a^2 - 6*d*b^3*a - 8*c^3*a^2 + 2*c^2*b^2*a
def D4 (a b c d e : Int) : Int := 256*e^3*a^3 - 192*e^2*d*b*a^2 - 128*e^2*c^2*a^2 + 144*e^2*c*b^2*a - 27*e^2*b^4 + 144*e*d^2*c*a^2 - 6*e*d^2*b^2*a - 80*e*d*c^2*b*a + 18*e*d*c*b^3 + 16*e*c^4*a - 4*e*c^3*b^2 - 27*d^4*a^2 + 18*d^3*c*b*a - 4*d^3*b^3 - 4*d^2*c^3*a + d^2*c^2*b^2

/-! the identities -/
theorem id2 (a b c d e : Int) : -s2 a b c d e * (s2 a b c d e * (s2 a b c d e * d) - (s2 a b c d e * (3 * b) - 4 * a * s1 a b c d e) * s0 a b c d e) = s2 a b c d e ^ 1 * (4 * a) * (4 * a) * t0 a b c d e := by
  unfold s0 s1 s2 t0
  grind
theorem id2' (a b c d e : Int) : -s2 a b c d e * (s2 a b c d e * (s2 a b c d e * (2 * c) - 4 * a * s0 a b c d e) - (s2 a b c d e * (3 * b) - 4 * a * s1 a b c d e) * s1 a b c d e) = s2 a b c d e ^ 1 * (4 * a) * (4 * a) * t1 a b c d e := by
  unfold s0 s1 s2 t1
  grind
theorem id3 (a b c d e : Int) : -t1 a b c d e * (t1 a b c d e * (t1 a b c d e * s0 a b c d e) - (t1 a b c d e * s1 a b c d e - s2 a b c d e * t0 a b c d e) * t0 a b c d e) = t1 a b c d e ^ 1 * s2 a b c d e * s2 a b c d e * (a * D4 a b c d e) := by
  unfold s0 s1 s2 t0 t1 D4
  grind

def u0 (a b c d : Int) : Int := -9*d*a^2 + c*b*a
def u1 (a b c d : Int) : Int := -6*c*a^2 + 2*b^2*a
def D3 (a b c d : Int) : Int := -27*d^2*a^2 + 18*d*c*b*a - 4*d*b^3 - 4*c^3*a + c^2*b^2
def D2 (a b c : Int) : Int := b^2 - 4*a*c
theorem id2n (a b c d e : Int) : -(s2 a b c d e * (s2 a b c d e * (2 * c) - 4 * a * s0 a b c d e) - (s2 a b c d e * (3 * b) - 4 * a * s1 a b c d e) * s1 a b c d e) = 16 * a ^ 2 * t1 a b c d e := by
  unfold s0 s1 s2 t1
  grind
def RS (g0 g1 g2 g3 s0 s1 s2 : Int) : Int := g0^2*s2^3 - g0*g1*s1*s2^2 - 2*g0*g2*s0*s2^2 + g0*g2*s1^2*s2 + 3*g0*g3*s0*s1*s2 - g0*g3*s1^3 + g1^2*s0*s2^2 - g1*g2*s0*s1*s2 - 2*g1*g3*s0^2*s2 + g1*g3*s0*s1^2 + g2^2*s0^2*s2 - g2*g3*s0^2*s1 + g3^2*s0^3
theorem idR (a b c d e : Int) : RS d (2*c) (3*b) (4*a) (s0 a b c d e) (s1 a b c d e) (s2 a b c d e) = -256 * a^5 * D4 a b c d e := by
  unfold RS s0 s1 s2 D4
  grind
theorem id3u (a b c d : Int) : -u1 a b c d * (u1 a b c d * (u1 a b c d * c) - (u1 a b c d * (2 * b) - 3 * a * u0 a b c d) * u0 a b c d) = u1 a b c d ^ 1 * (3 * a) * (3 * a) * (a * D3 a b c d) := by
  unfold u0 u1 D3
  grind
theorem id3v (a b c d : Int) : u1 a b c d * (u1 a b c d * c) - (u1 a b c d * (2 * b) - 3 * a * u0 a b c d) * u0 a b c d = - (9 * a ^ 2 * (a * D3 a b c d)) := by
  unfold u0 u1 D3
  grind
theorem id3n (a b c d e : Int) : -(t1 a b c d e * (t1 a b c d e * s0 a b c d e) - (t1 a b c d e * s1 a b c d e - s2 a b c d e * t0 a b c d e) * t0 a b c d e) = s2 a b c d e ^ 2 * (a * D4 a b c d e) := by
  unfold s0 s1 s2 t0 t1 D4
  grind
theorem dvd_half {w s k : Int} (h : w * w * k = s * s * s) : w ∣ s * s := by
  have : w ^ 2 ∣ (s * s) ^ 2 := ⟨k * s, by grind⟩
  exact (Int.pow_dvd_pow_iff (by decide)).mp this
/-! steps -/
theorem sr_nil {f at_ : Nat} {found : List (List Int)} {upper : List Int} {scale lead : Int} : srGo (f + 1) at_ found upper [] scale lead = some found := by rw [srGo, if_pos rfl]
theorem sr_step {f at_ : Nat} {found : List (List Int)} {upper lower rest : List Int} {scale lead own : Int} (h0 : hd lower ≠ 0) (h1 : 2 ≤ lower.length) (h2 : lower.length ≤ at_)
    (ho : oh (hd lower) scale (at_ - 1 - (lower.length - 1)) = own) (hw : own ≠ 0)
    (hr : (fr upper lower).map (fun n => (-own * n).fdiv (hd lower ^ (at_ - (lower.length - 1)) * scale * lead)) = rest) :
    ∃ found1 : List (List Int), found1.length = found.length ∧ found1.getD 0 [] = found.getD 0 [] ∧ srGo (f + 1) at_ found upper lower scale lead = srGo f (lower.length - 1) (found1.set (lower.length - 1 - 1) rest) lower rest own (hd lower) := by
  rw [srGo, if_neg (by intro z; rw [z] at h1; simp at h1), if_neg (by rintro (z | z); exact h0 z; omega)]
  dsimp only
  rw [ho, hr, if_neg (by omega), if_neg hw]
  refine ⟨_, ?_, ?_, rfl⟩
  · split
    · rw [List.length_set]
    · rfl
  · split
    · rw [List.getD_eq_getElem?_getD, List.getD_eq_getElem?_getD, List.getElem?_set_ne (by omega)]
    · rfl
theorem sr_end {f at_ : Nat} {found : List (List Int)} {upper : List Int} {scale lead c own : Int} (h : c ≠ 0) (h1 : 1 ≤ at_) (hf : found.length = at_ + 1 ∨ found.length = at_ + 0 + 1 ∨ 0 < found.length)
    (ho : at_ = 1 → found.getD 0 [] = [own]) (ho2 : at_ ≠ 1 → oh c scale (at_ - 1) = own) : ∃ fd, srGo (f + 1) at_ found upper [c] scale lead = some fd ∧ fd.length = found.length ∧ fd.getD 0 [] = [own] := by
  rw [srGo, if_neg (by simp), if_neg (by rintro (z | z); exact h z; simp at z; omega)]
  dsimp only
  rw [if_pos (show [c].length - 1 = 0 from rfl)]
  refine ⟨_, rfl, ?_, ?_⟩
  · split
    · rw [List.length_set]
    · rfl
  · by_cases c1 : at_ = 1
    · rw [if_neg (by simp; omega)]; exact ho c1
    · rw [if_pos (by simp; omega)]
      have e : oh (hd [c]) scale (at_ - 1 - ([c].length - 1)) = own := ho2 c1
      rw [e]
      have h0 : 0 < found.length := by omega
      show (found.set 0 [(own * c).fdiv c]).getD 0 [] = [own]
      rw [List.getD_eq_getElem?_getD, List.getElem?_set_self h0]
      show [(own * c).fdiv c] = [own]
      rw [fdiv_eq h (Int.mul_comm own c)]
theorem set_get {l : List (List Int)} {r : List Int} (h : 0 < l.length) : (l.set 0 r).getD 0 [] = r := by
  rw [List.getD_eq_getElem?_getD, List.getElem?_set_self h]; rfl
theorem set_get1 {l : List (List Int)} {r : List Int} {i : Nat} (h : i ≠ 0) : (l.set i r).getD 0 [] = l.getD 0 [] := by
  rw [List.getD_eq_getElem?_getD, List.getD_eq_getElem?_getD, List.getElem?_set_ne h]
/-- the last step: one number is left, or none -/
theorem sr_last {f : Nat} {found : List (List Int)} {upper : List Int} {scale lead s : Int} (h : 0 < found.length) (e : found.getD 0 [] = trimI [s]) : ∃ fd, srGo (f + 1) 1 found upper (trimI [s]) scale lead = some fd ∧ fd.length = found.length ∧ fd.getD 0 [] = trimI [s] := by
  by_cases c : s = 0
  · subst c; rw [trim_z1] at e ⊢; exact ⟨found, sr_nil, rfl, e⟩
  · rw [trim_one c] at e ⊢
    exact sr_end c (Nat.le_refl 1) (.inr (.inr h)) (fun _ => e) (fun z => absurd rfl z)
theorem sr1 {a : Int} (h : a ≠ 0) {b : Int} {upper : List Int} : ∃ fd, srGo 5 1 [[a], [b, a]] upper [a] 1 1 = some fd ∧ fd.length = 2 ∧ fd.getD 0 [] = trimI [a * 1] := by
  rw [Int.mul_one, trim_one h]
  exact sr_end h (Nat.le_refl 1) (.inl rfl) (fun _ => rfl) (fun z => absurd rfl z)
theorem sr2 {a b c : Int} (h : a ≠ 0) : ∃ fd, srGo 5 2 [[], [b, 2 * a], [c, b, a]] [c, b, a] [b, 2 * a] 1 1 = some fd ∧ fd.length = 3 ∧ fd.getD 0 [] = trimI [a * D2 a b c] := by
  have h2 : 2 * a ≠ 0 := by omega
  have hrest : (fr [c, b, a] [b, 2 * a]).map (fun n => (-(2 * a) * n).fdiv ((2 * a) ^ 1 * 1 * 1)) = trimI [a * D2 a b c] := by
    refine div_trim (by rw [Int.mul_one, Int.mul_one, Int.pow_succ]; simpa using h) h2 (.cons ?_ .nil)
    show -(2 * a) * (2 * a * (2 * a * c) - (2 * a * b - a * b) * b) = _
    unfold D2
    grind
  obtain ⟨f1, l1, g1, e⟩ := sr_step (f := 4) (at_ := 2) (found := [[], [b, 2 * a], [c, b, a]]) (upper := [c, b, a]) (lower := [b, 2 * a]) (scale := 1) (lead := 1) (own := 2 * a) h2 (Nat.le_refl 2) (Nat.le_refl 2) rfl h2 hrest
  rw [e]
  obtain ⟨fd, e1, e2, e3⟩ := sr_last (f := 3) (found := f1.set 0 (trimI [a * D2 a b c])) (upper := [b, 2 * a]) (scale := 2 * a) (lead := 2 * a) (s := a * D2 a b c) (by rw [List.length_set, l1]; simp) (set_get (by rw [l1]; simp))
  exact ⟨fd, e1, by rw [e2, List.length_set, l1]; rfl, e3⟩
theorem sr3 {a b c d : Int} (h : a ≠ 0) : ∃ fd, srGo 5 3 [[], [], [c, 2 * b, 3 * a], [d, c, b, a]] [d, c, b, a] [c, 2 * b, 3 * a] 1 1 = some fd ∧ fd.length = 4 ∧ fd.getD 0 [] = trimI [a * D3 a b c d] := by
  have h2 : 3 * a ≠ 0 := by omega
  have hrest : (fr [d, c, b, a] [c, 2 * b, 3 * a]).map (fun n => (-(3 * a) * n).fdiv ((3 * a) ^ 1 * 1 * 1)) = trimI [u0 a b c d, u1 a b c d] := by
    refine div_trim (by rw [Int.mul_one, Int.mul_one, Int.pow_succ]; simpa using h) h2 (.cons ?_ (.cons ?_ .nil))
    · show -(3 * a) * (3 * a * (3 * a * d) - (3 * a * b - a * (2 * b)) * c) = _
      unfold u0
      grind
    · show -(3 * a) * (3 * a * (3 * a * c - a * c) - (3 * a * b - a * (2 * b)) * (2 * b)) = _
      unfold u1
      grind
  obtain ⟨f1, l1, g1, e⟩ := sr_step (f := 4) (at_ := 3) (found := [[], [], [c, 2 * b, 3 * a], [d, c, b, a]]) (upper := [d, c, b, a]) (lower := [c, 2 * b, 3 * a]) (scale := 1) (lead := 1) (own := 3 * a) h2 (by simp) (Nat.le_refl 3) rfl h2 hrest
  rw [e]
  have g1 : f1.getD 0 [] = [] := g1
  have l1 : f1.length = 4 := l1
  have v := id3v a b c d
  have w := id3u a b c d
  have hp : ∀ z : Int, 9 * a ^ 2 * z = 0 → z = 0 := fun z hz => by
    rcases Int.mul_eq_zero.mp hz with q | q
    · exfalso
      have : a ^ 2 ≠ 0 := Int.pow_ne_zero h
      omega
    · exact q
  generalize u0 a b c d = x0 at *
  generalize u1 a b c d = x1 at *
  generalize a * D3 a b c d = S at *
  show ∃ fd, srGo 4 2 (f1.set 1 (trimI [x0, x1])) [c, 2 * b, 3 * a] (trimI [x0, x1]) (3 * a) (3 * a) = some fd ∧ _
  by_cases c1 : x1 = 0
  · subst c1
    rw [trim_z2]
    by_cases c0 : x0 = 0
    · subst c0
      have S0 : S = 0 := hp S (by grind)
      rw [trim_z1, S0, trim_z1]
      exact ⟨_, sr_nil, by rw [List.length_set]; exact l1, by rw [set_get1 (by decide)]; exact g1⟩
    · rw [trim_one c0]
      have e1 : x0 * x0 = 3 * a * -S := by
        have : 3 * a * (x0 * x0 - 3 * a * -S) = 0 := by grind
        rcases Int.mul_eq_zero.mp this with q | q
        · omega
        · omega
      have S0 : S ≠ 0 := fun z => by
        rw [z] at e1
        have : x0 * x0 = 0 := by rw [e1]; simp
        rcases Int.mul_eq_zero.mp this with q | q <;> exact c0 q
      rw [trim_one S0]
      obtain ⟨fd, e2, e3, e4⟩ := sr_end (f := 3) (at_ := 2) (found := f1.set 1 [x0]) (upper := [c, 2 * b, 3 * a]) (scale := 3 * a) (lead := 3 * a) (c := x0) (own := S) c0 (by decide) (.inr (.inr (by rw [List.length_set, l1]; decide))) (fun z => absurd z (by decide)) (fun _ => by
        show (-(x0 * x0).fdiv (3 * a)) = S
        rw [fdiv_eq h2 e1]; omega)
      exact ⟨fd, e2, by rw [e3, List.length_set, l1], e4⟩
  · rw [trim_two c1]
    have hr2 : (fr [c, 2 * b, 3 * a] [x0, x1]).map (fun n => (-x1 * n).fdiv (x1 ^ 1 * (3 * a) * (3 * a))) = trimI [S] := by
      refine div_trim ?_ c1 (.cons ?_ .nil)
      · rw [Int.pow_succ, Int.pow_zero, Int.one_mul]
        exact Int.mul_ne_zero (Int.mul_ne_zero c1 h2) h2
      · show -x1 * (x1 * (x1 * c) - (x1 * (2 * b) - 3 * a * x0) * x0) = _
        exact w
    obtain ⟨f2, l2, g2, e'⟩ := sr_step (f := 3) (at_ := 2) (found := f1.set 1 [x0, x1]) (upper := [c, 2 * b, 3 * a]) (lower := [x0, x1]) (scale := 3 * a) (lead := 3 * a) (own := x1) c1 (Nat.le_refl 2) (Nat.le_refl 2) rfl c1 hr2
    rw [e']
    rw [List.length_set, l1] at l2
    obtain ⟨fd, e1, e2, e3⟩ := sr_last (f := 2) (found := f2.set 0 (trimI [S])) (upper := [x0, x1]) (scale := x1) (lead := x1) (s := S) (by rw [List.length_set, l2]; decide) (set_get (by rw [l2]; decide))
    exact ⟨fd, e1, by rw [e2, List.length_set, l2], e3⟩

theorem sr4 {a b c d e : Int} (h : a ≠ 0) : ∃ fd, srGo 5 4 [[], [], [], [d, 2 * c, 3 * b, 4 * a], [e, d, c, b, a]] [e, d, c, b, a] [d, 2 * c, 3 * b, 4 * a] 1 1 = some fd ∧ fd.length = 5 ∧ fd.getD 0 [] = trimI [a * D4 a b c d e] := by
  have h2 : 4 * a ≠ 0 := by omega
  have hrest : (fr [e, d, c, b, a] [d, 2 * c, 3 * b, 4 * a]).map (fun n => (-(4 * a) * n).fdiv ((4 * a) ^ 1 * 1 * 1)) = trimI [s0 a b c d e, s1 a b c d e, s2 a b c d e] := by
    refine div_trim (by rw [Int.mul_one, Int.mul_one, Int.pow_succ]; simpa using h) h2 (.cons ?_ (.cons ?_ (.cons ?_ .nil)))
    · show -(4 * a) * (4 * a * (4 * a * e) - (4 * a * b - a * (3 * b)) * d) = _
      unfold s0
      grind
    · show -(4 * a) * (4 * a * (4 * a * d - a * d) - (4 * a * b - a * (3 * b)) * (2 * c)) = _
      unfold s1
      grind
    · show -(4 * a) * (4 * a * (4 * a * c - a * (2 * c)) - (4 * a * b - a * (3 * b)) * (3 * b)) = _
      unfold s2
      grind
  obtain ⟨f1, l1, g1, e1⟩ := sr_step (f := 4) (at_ := 4) (found := [[], [], [], [d, 2 * c, 3 * b, 4 * a], [e, d, c, b, a]]) (upper := [e, d, c, b, a]) (lower := [d, 2 * c, 3 * b, 4 * a]) (scale := 1) (lead := 1) (own := 4 * a) h2 (by simp) (Nat.le_refl 4) rfl h2 hrest
  rw [e1]
  clear e1 hrest
  have g1 : f1.getD 0 [] = [] := g1
  have l1 : f1.length = 5 := l1
  have i2 := id2 a b c d e
  have i2' := id2' a b c d e
  have i2n := id2n a b c d e
  have i3 := id3 a b c d e
  have i3n := id3n a b c d e
  have iR := idR a b c d e
  have hp : ∀ (k : Nat) (z : Int), a ^ k * z = 0 → z = 0 := fun k z hz => by
    rcases Int.mul_eq_zero.mp hz with q | q
    · exact absurd q (Int.pow_ne_zero h)
    · exact q
  generalize s0 a b c d e = x0 at *
  generalize s1 a b c d e = x1 at *
  generalize s2 a b c d e = x2 at *
  generalize t0 a b c d e = y0 at *
  generalize t1 a b c d e = y1 at *
  generalize D4 a b c d e = D at *
  show ∃ fd, srGo 4 3 (f1.set 2 (trimI [x0, x1, x2])) [d, 2 * c, 3 * b, 4 * a] (trimI [x0, x1, x2]) (4 * a) (4 * a) = some fd ∧ _
  by_cases c2 : x2 = 0
  · subst c2
    rw [trim_z3]
    by_cases c1 : x1 = 0
    · subst c1
      rw [trim_z2]
      by_cases c0 : x0 = 0
      · subst c0
        have D0 : a * D = 0 := hp 4 _ (by unfold RS at iR; grind)
        rw [D0, trim_z1]
        exact ⟨_, sr_nil, by rw [List.length_set]; exact l1, by rw [set_get1 (by decide)]; exact g1⟩
      · rw [trim_one c0]
        have e1 : (4 * a) * (4 * a) * -(a * D) = x0 * x0 * x0 := by
          have : a ^ 2 * ((4 * a) * (4 * a) * -(a * D) - x0 * x0 * x0) = 0 := by unfold RS at iR; grind
          have := hp 2 _ this
          omega
        obtain ⟨m, hm⟩ := dvd_half e1
        have S0 : a * D ≠ 0 := fun z => by
          rw [z] at e1
          have : x0 * x0 * x0 = 0 := by rw [← e1]; simp
          rcases Int.mul_eq_zero.mp this with q | q
          · rcases Int.mul_eq_zero.mp q with q | q <;> exact c0 q
          · exact c0 q
        rw [trim_one S0]
        have e2 : x0 * -m = 4 * a * (a * D) := by
          have : 4 * a * (x0 * -m - 4 * a * (a * D)) = 0 := by grind
          rcases Int.mul_eq_zero.mp this with q | q
          · omega
          · omega
        obtain ⟨fd, e5, e3, e4⟩ := sr_end (f := 3) (at_ := 3) (found := f1.set 2 [x0]) (upper := [d, 2 * c, 3 * b, 4 * a]) (scale := 4 * a) (lead := 4 * a) (c := x0) (own := a * D) c0 (by decide) (.inr (.inr (by rw [List.length_set, l1]; decide))) (fun z => absurd z (by decide)) (fun _ => by
          show (x0 * -(x0 * x0).fdiv (4 * a)).fdiv (4 * a) = a * D
          rw [fdiv_eq h2 hm, fdiv_eq h2 e2])
        exact ⟨fd, e5, by rw [e3, List.length_set, l1], e4⟩
    · rw [trim_two c1]
      have e1 : x1 * x1 = 4 * a * -y1 := by
        have : a ^ 1 * (x1 * x1 - 4 * a * -y1) = 0 := by grind
        have := hp 1 _ this
        omega
      have y1n : y1 ≠ 0 := fun z => by
        rw [z] at e1
        have : x1 * x1 = 0 := by rw [e1]; simp
        rcases Int.mul_eq_zero.mp this with q | q <;> exact c1 q
      have hr2 : (fr [d, 2 * c, 3 * b, 4 * a] [x0, x1]).map (fun n => (-y1 * n).fdiv (x1 ^ 2 * (4 * a) * (4 * a))) = trimI [a * D] := by
        refine div_trim ?_ y1n (.cons ?_ .nil)
        · exact Int.mul_ne_zero (Int.mul_ne_zero (Int.pow_ne_zero c1) h2) h2
        · show -y1 * (x1 * (x1 * (x1 * d)) - (x1 * (x1 * (2 * c)) - (x1 * (3 * b) - 4 * a * x0) * x0) * x0) = x1 ^ 2 * (4 * a) * (4 * a) * (a * D)
          generalize hN : x1 * (x1 * (x1 * d)) - (x1 * (x1 * (2 * c)) - (x1 * (3 * b) - 4 * a * x0) * x0) * x0 = N
          have hN2 : N = 64 * a ^ 4 * D := by
            have hR : RS d (2 * c) (3 * b) (4 * a) x0 x1 0 = -(4 * a) * N := by rw [← hN]; unfold RS; grind
            rw [iR] at hR
            have : a ^ 1 * (N - 64 * a ^ 4 * D) = 0 := by clear i2 i2' i2n i3 i3n e1 hN iR; grind
            have := hp 1 _ this
            omega
          rw [hN2]
          clear i2 i2' i2n i3 i3n iR hN
          grind
      obtain ⟨f2, l2, g2, e'⟩ := sr_step (f := 3) (at_ := 3) (found := f1.set 2 [x0, x1]) (upper := [d, 2 * c, 3 * b, 4 * a]) (lower := [x0, x1]) (scale := 4 * a) (lead := 4 * a) (own := y1) c1 (Nat.le_refl 2) (by simp) (by
        show -(x1 * x1).fdiv (4 * a) = y1
        rw [fdiv_eq h2 e1]; omega) y1n hr2
      rw [e']
      rw [List.length_set, l1] at l2
      obtain ⟨fd, e1, e2, e3⟩ := sr_last (f := 2) (found := f2.set 0 (trimI [a * D])) (upper := [x0, x1]) (scale := y1) (lead := x1) (s := a * D) (by rw [List.length_set, l2]; decide) (set_get (by rw [l2]; decide))
      exact ⟨fd, e1, by rw [e2, List.length_set, l2], e3⟩
  · rw [trim_three c2]
    have hr2 : (fr [d, 2 * c, 3 * b, 4 * a] [x0, x1, x2]).map (fun n => (-x2 * n).fdiv (x2 ^ 1 * (4 * a) * (4 * a))) = trimI [y0, y1] := by
      refine div_trim ?_ c2 (.cons ?_ (.cons ?_ .nil))
      · exact Int.mul_ne_zero (Int.mul_ne_zero (Int.pow_ne_zero c2) h2) h2
      · exact i2
      · exact i2'
    obtain ⟨f2, l2, g2, e'⟩ := sr_step (f := 3) (at_ := 3) (found := f1.set 2 [x0, x1, x2]) (upper := [d, 2 * c, 3 * b, 4 * a]) (lower := [x0, x1, x2]) (scale := 4 * a) (lead := 4 * a) (own := x2) c2 (by simp) (Nat.le_refl 3) rfl c2 hr2
    rw [e']
    rw [List.length_set, l1] at l2
    rw [set_get1 (by decide)] at g2
    have g2 : f2.getD 0 [] = [] := g2.trans g1
    clear e' hr2
    show ∃ fd, srGo 3 2 (f2.set 1 (trimI [y0, y1])) [x0, x1, x2] (trimI [y0, y1]) x2 x2 = some fd ∧ _
    by_cases d1 : y1 = 0
    · subst d1
      rw [trim_z2]
      have e2 : y0 * y0 = x2 * -(a * D) := by
        have : x2 * (y0 * y0 - x2 * -(a * D)) = 0 := by grind
        rcases Int.mul_eq_zero.mp this with q | q
        · exact absurd q c2
        · omega
      by_cases d0 : y0 = 0
      · subst d0
        have D0 : a * D = 0 := by
          have : x2 * -(a * D) = 0 := by rw [← e2]; simp
          rcases Int.mul_eq_zero.mp this with q | q
          · exact absurd q c2
          · omega
        rw [D0, trim_z1]
        exact ⟨_, sr_nil, by rw [List.length_set]; exact l2, by rw [set_get1 (by decide)]; exact g2⟩
      · rw [trim_one d0]
        have S0 : a * D ≠ 0 := fun z => by
          rw [z] at e2
          have : y0 * y0 = 0 := by rw [e2]; simp
          rcases Int.mul_eq_zero.mp this with q | q <;> exact d0 q
        rw [trim_one S0]
        obtain ⟨fd, e5, e3, e4⟩ := sr_end (f := 2) (at_ := 2) (found := f2.set 1 [y0]) (upper := [x0, x1, x2]) (scale := x2) (lead := x2) (c := y0) (own := a * D) d0 (by decide) (.inr (.inr (by rw [List.length_set, l2]; decide))) (fun z => absurd z (by decide)) (fun _ => by
          show -(y0 * y0).fdiv x2 = a * D
          rw [fdiv_eq c2 e2]; omega)
        exact ⟨fd, e5, by rw [e3, List.length_set, l2], e4⟩
    · rw [trim_two d1]
      have hr3 : (fr [x0, x1, x2] [y0, y1]).map (fun n => (-y1 * n).fdiv (y1 ^ 1 * x2 * x2)) = trimI [a * D] := by
        refine div_trim ?_ d1 (.cons ?_ .nil)
        · exact Int.mul_ne_zero (Int.mul_ne_zero (Int.pow_ne_zero d1) c2) c2
        · exact i3
      obtain ⟨f3, l3, g3, e'⟩ := sr_step (f := 2) (at_ := 2) (found := f2.set 1 [y0, y1]) (upper := [x0, x1, x2]) (lower := [y0, y1]) (scale := x2) (lead := x2) (own := y1) d1 (Nat.le_refl 2) (Nat.le_refl 2) rfl d1 hr3
      rw [e']
      rw [List.length_set, l2] at l3
      obtain ⟨fd, e1, e2, e3⟩ := sr_last (f := 1) (found := f3.set 0 (trimI [a * D])) (upper := [y0, y1]) (scale := y1) (lead := y1) (s := a * D) (by rw [List.length_set, l3]; decide) (set_get (by rw [l3]; decide))
      exact ⟨fd, e1, by rw [e2, List.length_set, l3], e3⟩
end K25

set_option Elab.async false
set_option linter.all false
set_option maxRecDepth 100000
set_option maxHeartbeats 4000000
/-! how great the numbers are -/
namespace K25
open PySem PySem.Spec PyProof.Rows L2
/-- less than 2 ^ n in size -/
def Wd (n : Nat) (i : Int) : Prop := i.natAbs < 2 ^ n
theorem Wd.up {n m : Nat} {i : Int} (h : Wd n i) (l : n ≤ m) : Wd m i := Nat.lt_of_lt_of_le h (Nat.pow_le_pow_right (by decide) l)
theorem Wd.zero (n : Nat) : Wd n 0 := Nat.pow_pos (by decide)
theorem Wd.neg {n : Nat} {i : Int} (h : Wd n i) : Wd n (-i) := by unfold Wd; rw [Int.natAbs_neg]; exact h
theorem Wd.mul {n m : Nat} {i j : Int} (h : Wd n i) (g : Wd m j) : Wd (n + m) (i * j) := by
  unfold Wd
  rw [Int.natAbs_mul, Nat.pow_add]
  exact Nat.mul_lt_mul_of_lt_of_le h (Nat.le_of_lt g) (Nat.pow_pos (by decide))
theorem Wd.add {n : Nat} {i j : Int} (h : Wd n i) (g : Wd n j) : Wd (n + 1) (i + j) := by
  unfold Wd at *
  rw [Nat.pow_succ]
  have := Int.natAbs_add_le i j
  omega
theorem Wd.sub {n : Nat} {i j : Int} (h : Wd n i) (g : Wd n j) : Wd (n + 1) (i - j) := by
  rw [Int.sub_eq_add_neg]; exact h.add g.neg
theorem fdiv_abs_pos (i j : Int) (c : 0 < j) : (i.fdiv j).natAbs ≤ i.natAbs := by
  have e := Int.mul_fdiv_add_fmod i j
  generalize hq : i.fdiv j = q at *
  have r1 := Int.fmod_nonneg_of_pos i c
  have r2 := Int.fmod_lt_of_pos i c
  generalize i.fmod j = r at *
  rcases Int.lt_trichotomy q 0 with z | z | z
  · have h3 : j * q + j ≤ q + 1 := by
      have : 0 ≤ (j - 1) * (-q - 1) := Int.mul_nonneg (by omega) (by omega)
      grind
    omega
  · omega
  · have h1 : j * q ≥ q := by
      have : 0 ≤ (j - 1) * q := Int.mul_nonneg (by omega) (by omega)
      grind
    omega
theorem fdiv_abs (i j : Int) (h : j ≠ 0) : (i.fdiv j).natAbs ≤ i.natAbs := by
  rcases Int.lt_or_gt_of_ne h with c | c
  · have := fdiv_abs_pos (-i) (-j) (by omega)
    rw [Int.neg_fdiv_neg, Int.natAbs_neg] at this
    exact this
  · exact fdiv_abs_pos i j c
theorem Wd.fdiv {n : Nat} {i j : Int} (h : Wd n i) (g : j ≠ 0) : Wd n (i.fdiv j) := Nat.lt_of_le_of_lt (fdiv_abs i j g) h
theorem Wd.pow {n : Nat} {i : Int} (h : Wd n i) : ∀ k : Nat, Wd (k * n + 1) (i ^ k)
  | 0 => by unfold Wd; rw [Int.pow_zero]; show 1 < _; rw [Nat.zero_mul]; decide
  | k + 1 => by
    rw [Int.pow_succ]
    exact ((h.pow k).mul h).up (by rw [Nat.add_mul]; omega)
theorem Wd.cm {n m : Nat} {i j : Int} (h : Wd n i) (g : Wd m j) (l : n + m + 2 ≤ 1000000) : CMulW i j := wide_mul (h.up (Nat.le_succ n)) (g.up (Nat.le_succ m)) (Nat.succ_pos _) (Nat.succ_pos _) (by omega)
theorem intBits_le {i : Int} {n : Nat} (h : Wd n i) : Builtin.Int.intBits i ≤ n := by
  unfold Builtin.Int.intBits
  split
  · omega
  · rename_i z
    have z' : i.natAbs ≠ 0 := by simpa using z
    have := (Nat.log2_lt z').mpr h
    omega
/-! the mirror's numbers -/
def WdA (n : Nat) (r : List Int) : Prop := ∀ c ∈ r, Wd n c
theorem WdA.up {n m : Nat} {r : List Int} (h : WdA n r) (l : n ≤ m) : WdA m r := fun c hc => (h c hc).up l
theorem WdA.g {n : Nat} {r : List Int} (h : WdA n r) (k : Nat) : Wd n (g r k) := by
  rcases Nat.lt_or_ge k r.length with c | c
  · rw [g_some c]; exact h _ (List.getElem_mem _)
  · rw [g_none c]; exact .zero n
theorem WdA.hd {n : Nat} {r : List Int} (h : WdA n r) : Wd n (hd r) := h.g _
theorem oh_wd {h s : Int} {B : Nat} (hb : Wd B h) (hs : s ≠ 0) : ∀ k, Wd ((k + 1) * B) (oh h s k)
  | 0 => hb.up (by omega)
  | k + 1 => by
    have := (hb.mul (oh_wd hb hs k)).fdiv hs
    rw [oh]
    have l : B + (k + 1) * B ≤ (k + 1 + 1) * B := by rw [Nat.add_mul (k + 1)]; omega
    split
    · exact this.neg.up l
    · exact this.up l
theorem subAt_len : ∀ (n : Nat) (t : Int) (bs r : List Int), n + bs.length ≤ r.length → (subAt n t bs r).length = r.length
  | 0, _, [], r, _ => by rw [subAt]
  | 0, _, _ :: _, [], h => by simp at h
  | 0, t, b :: bs, c :: r, h => by rw [subAt, List.length_cons, List.length_cons, subAt_len 0 t bs r (by simp at h ⊢; omega)]
  | n + 1, _, _, [], h => by simp at h
  | n + 1, t, bs, c :: r, h => by rw [subAt, List.length_cons, List.length_cons, subAt_len n t bs r (by simp at h; omega)]
theorem subAt_g : ∀ (n : Nat) (t : Int) (bs r : List Int), n + bs.length ≤ r.length → ∀ k, g (subAt n t bs r) k = if n ≤ k then g r k - t * g bs (k - n) else g r k
  | 0, t, [], r, _, k => by rw [subAt, if_pos (Nat.zero_le _), show g [] (k - 0) = 0 from rfl]; simp
  | 0, _, _ :: _, [], h, k => by simp at h
  | 0, t, b :: bs, c :: r, h, k => by
    rw [subAt, if_pos (Nat.zero_le _)]
    cases k with
    | zero => rfl
    | succ k =>
      have := subAt_g 0 t bs r (by simp at h ⊢; omega) k
      rw [if_pos (Nat.zero_le _)] at this
      exact this
  | n + 1, _, _, [], h, k => by simp at h
  | n + 1, t, bs, c :: r, h, k => by
    rw [subAt]
    cases k with
    | zero => rw [if_neg (by omega)]; rfl
    | succ k =>
      have := subAt_g n t bs r (by simp at h; omega) k
      show g (subAt n t bs r) k = if n + 1 ≤ k + 1 then g r k - t * g bs (k + 1 - (n + 1)) else g r k
      rw [this, Nat.add_sub_add_right]
      simp only [Nat.add_le_add_iff_right]
theorem row_eq {r s : List Int} (l : r.length = s.length) (h : ∀ k, g r k = g s k) : r = s := List.ext_getElem l fun k h1 h2 => by rw [← g_some h1, ← g_some h2, h]
theorem subAt_wd {n A B : Nat} {t : Int} {bs r : List Int} (ht : Wd A t) (hb : WdA B bs) (hr : WdA (A + B) r) (l : n + bs.length ≤ r.length) : WdA (A + B + 1) (subAt n t bs r) := fun c hc => by
  obtain ⟨k, hk, e⟩ := List.getElem_of_mem hc
  rw [← e, ← g_some hk, subAt_g n t bs r l]
  split
  · exact (hr.g k).sub (ht.mul (hb.g _))
  · exact (hr.g k).up (by omega)
theorem WdA.scl {n m : Nat} {t : Int} {r : List Int} (ht : Wd n t) (h : WdA m r) : WdA (n + m) (r.map fun c => t * c) := fun c hc => by
  obtain ⟨x, hx, rfl⟩ := List.mem_map.mp hc
  exact ht.mul (h x hx)
theorem frGo_wd {bb : List Int} {B : Nat} (hb : WdA B bb) : ∀ (n : Nat) {A : Nat} {r : List Int}, WdA A r → bb.length + n = r.length + 1 → 1 ≤ bb.length → WdA (A + n * (B + 1)) (frGo bb n r) ∧ (frGo bb n r).length + 1 = bb.length
  | 0, A, r, h, l, _ => ⟨by rw [frGo]; exact h.up (by omega), by rw [frGo]; omega⟩
  | n + 1, A, r, h, l, l1 => by
    rw [frGo]
    have ll : n + bb.dropLast.length ≤ (r.dropLast.map fun c => hd bb * c).length := by rw [List.length_map, List.length_dropLast, List.length_dropLast]; omega
    have w : WdA (A + B + 1) (subAt n (hd r) bb.dropLast (r.dropLast.map fun c => hd bb * c)) :=
      subAt_wd h.hd (fun c hc => hb c (List.dropLast_subset _ hc)) ((WdA.scl hb.hd (fun c hc => h c (List.dropLast_subset _ hc))).up (by omega)) ll
    have := frGo_wd hb n w (by rw [subAt_len _ _ _ _ ll, List.length_map, List.length_dropLast]; omega) l1
    exact ⟨this.1.up (by rw [Nat.add_mul]; omega), this.2⟩
theorem WdA.trim {n : Nat} {r : List Int} (h : WdA n r) : WdA n (trimI r) := fun c hc => h c (trimBy_mem _ _ hc)
end K25

set_option Elab.async false
set_option linter.all false
set_option maxRecDepth 100000
set_option maxHeartbeats 4000000
/-! for i, x in enumerate(t), t a tuple -/
namespace Tw
open PySem PySem.Spec PyProof.Rows L2
/-- the tuple's iterator, the enumerate over it, as they are made -/
def itO (p : Addr) : Obj :=
  { cls := .type "tuple_iterator", data := .fields #[.ref p, .int 0 0] }
def enO (i : Addr) : Obj :=
  { cls := .type "enumerate", data := .fields #[.none, .bool false, .ref i, rawInt 0, .none, .none] }
theorem enum_newT (p : Addr) (its : Array Value) (k : Nat) (dd : Option Addr) (sl : Array (Option Value)) :
    Meets (Builtin.«enumerate.__new__» ⟨[.type "enumerate", .ref p], []⟩) (fun _ R s =>
      s.heap.get? p = some ⟨.type "tuple", dd, .seq its k, sl⟩ ∧
      R (.ok (.ret (.ref (s.heap.push (itO p)).objs.size))) { s with heap := (s.heap.push (itO p)).push (enO s.heap.objs.size) }) := by
  refine .of_wp fun prog w A R s h => ?_
  obtain ⟨hp, gn, dr, tk, os⟩ := s
  obtain ⟨hl, h⟩ := h
  have hsub := sub_enumerate
  have isT : (Shared.heap ⟨hp, gn, dr, tk, os⟩).IsTuple p its := ⟨_, hl, rfl, k, rfl⟩
  wp_walk using AutoSeq1.wpAny_loadPart' hl
  refine wpAny_stack_any fun _ => ?_
  refine wpAny_pure ?_
  split
  · rename_i c _ _ _ _ _
    cases (c == Value.type "enumerate") <;>
    · wp_walk using AutoSeq1.wpAny_loadPart' hl, wpAny_pyIter_tuple isT
      exact ⟨_, rfl, h⟩
  · wp_walk using AutoSeq1.wpAny_loadPart' hl, wpAny_pyIter_tuple isT
    exact ⟨_, rfl, h⟩
section
variable {prog : Program} {w : World} {A : Around} {E : Value → Shared → Prop} {s : Shared}
theorem call_enumT {p : Addr} {its : Array Value} {Q : Value → Shared → Prop} (hT : s.heap.IsTuple p its)
    (h : ∀ h', IsEnum h' (s.heap.objs.size + 1) s.heap.objs.size 0 .none → h'.IsTupleIter s.heap.objs.size p 0 →
      (∀ b o, s.heap.get? b = some o → h'.get? b = some o) → Q (.ref (s.heap.objs.size + 1)) { s with heap := h' }) :
    wpAny (model prog w) A (call (.type "enumerate") [.ref p]) Q E s := by
  obtain ⟨⟨c, dd, dt, sl⟩, hl, hc, k, hd⟩ := hT
  cases (show c = .type "tuple" from hc)
  cases (show dt = .seq its k from hd)
  have z1 : (s.heap.push (itO p)).objs.size = s.heap.objs.size + 1 := Heap.size_push ..
  have g1 : ((s.heap.push (itO p)).push (enO s.heap.objs.size)).get? (s.heap.objs.size + 1) = some (enO s.heap.objs.size) := by
    rw [← z1]
    exact Heap.get?_push_size _ rfl
  have g0 : ((s.heap.push (itO p)).push (enO s.heap.objs.size)).get? s.heap.objs.size = some (itO p) :=
    Heap.get?_push_of_some _ (Heap.get?_push_size _ rfl)
  refine callType_new F.called_enumerate (by decide) (F.typeCall_enumerate_1 _) (F.newCall_enumerate_1 _)
    (fun obj => F.args_object_init_2 obj _) F.entry_enumerate_new (enum_newT p its k dd sl) ⟨hl, ?_⟩
  show _ ∧ _
  rw [z1]
  exact ⟨⟨_, g1, rfl⟩, h _ g1 ⟨_, g0, rfl, rfl⟩ fun b o y => Heap.get?_push_of_some _ (Heap.get?_push_of_some _ y)⟩
end
/-- the tuple at a, each item in a new pair with its number -/
def IteT (K : PySem.W.Frag) (a : Addr) : It where
  go := fun i H => ∃ (xs : List V) (x : V), SqT K H a xs ∧ xs[i]? = some x
  yld := fun i H v H' => ∃ t x, v = .ref t ∧ H t = none ∧ H' = upd H t (.tup [.int (i : Nat), x]) ∧
    ∀ xs, SqT K H a xs → xs[i]? = some x
  stop := fun i H => ∃ xs : List V, SqT K H a xs ∧ xs.length = i
theorem apart {h : Heap} {a b : Addr} {o u : Obj} {m n : String} (ha : h.get? a = some o) (hb : h.get? b = some u)
    (ca : o.cls = .type m) (cb : u.cls = .type n) (d : m ≠ n) : a ≠ b := by
  rintro rfl
  rw [ha] at hb
  cases hb
  rw [ca] at cb
  cases cb
  exact d rfl
theorem turn_enumT {P : Program} {w : World} {K : PySem.W.Frag} {elts : List Expr} {kk : Nat} {tpos : Pos} (a e it : Addr) :
    Turn P w K (.Tuple elts kk tpos) (IteT K a) [e, it] e
      (fun i h => (∃ old, IsEnum h e it ((i : Nat) : Int) old) ∧ h.IsTupleIter it a i ∧ e ≠ it) where
  mem := by simp
  obj := fun i h st b hb => by
    obtain ⟨⟨old, he⟩, ⟨o, ho, hc, hd⟩, _⟩ := st
    rcases List.mem_cons.mp hb with z | z
    · subst z; exact ⟨_, he, fun v q => nomatch q⟩
    · have z := List.mem_singleton.mp z
      subst z; exact ⟨o, ho, fun v q => by rw [hd] at q; cases q⟩
  keep := fun i h h' st k => by
    obtain ⟨⟨old, he⟩, hi, hne⟩ := st
    exact ⟨⟨old, k e (by simp) _ he⟩, hi.at fun o q => k it (by simp) o q, hne⟩
  item := by
    intro X hP hw hK hc i pins s σ H E I hf st hg
    subst hP hw hK
    obtain ⟨⟨old, he⟩, hit, hne⟩ := st
    obtain ⟨xs, x, hq, hx⟩ := hg
    obtain ⟨its, rv, p, hz⟩ := I.tuple hq
    obtain ⟨u, hu, ru⟩ := rv.get hx
    have isT : s.heap.IsTuple a its.toArray := p
    obtain ⟨oa, ga, ca, _⟩ := id isT
    obtain ⟨oi, gi, ci, _⟩ := id hit
    have nai : a ≠ it := apart ga gi ca ci (by decide)
    have nea : e ≠ a := apart he ga rfl ca (by decide)
    have hel : e < s.heap.objs.size := Heap.lt_size he
    have hil : it < s.heap.objs.size := Heap.lt_size gi
    have hlt : i < its.toArray.size := by
      have := (List.getElem?_eq_some_iff.mp hu).1
      simpa using this
    refine wpAny_pyNext_enum_itemD (Draws.tuple (A := X.A.in1) (I.ok.hd hc) it a nai its.toArray) he ⟨hit, isT⟩ hlt hne
      (by simp [hne, nea]) fun y h' tk hy ho st' hT hsz hk => ?_
    have yu : y = u := by
      have : its[i]? = some y := by simpa using hy
      rw [hu] at this
      cases this; rfl
    subst yu
    refine ⟨_, rfl, wpAny_letOwnedTupleGo_enum (s := { s with heap := h', toks := tk + 1 }) ho fun h2 he2 sb => ?_⟩
    have hT2 := (sb.2 _ (Nat.ne_of_gt hel)).trans hT
    have new : ObjOk X.prog X.w (upd H s.heap.objs.size (.tup [.int (i : Nat), x])) h2 s.heap.objs.size (.tup [.int (i : Nat), x]) :=
      ⟨by show 2 ≤ sizeLine; decide, [.int i tk, y], .cons ⟨_, rfl⟩ (.cons ru .nil), ⟨_, hT2, rfl, _, rfl⟩⟩
    have old2 : ∀ b ob, b ∉ [e, it] → s.heap.get? b = some ob → h2.get? b = some ob := fun b ob hb q => by
      have b1 : b ≠ e := fun z => hb (by simp [z])
      have b2 : b ≠ it := fun z => hb (by simp [z])
      exact (sb.2 b b1).trans (hk b ob b1 b2 q)
    have I1 := I.turnedNew (t' := tk + 1) (ch := [e, it]) old2 hf (Nat.le_refl _) new
    refine ⟨.ref s.heap.objs.size, _, I1, rfl, ⟨_, x, rfl, I.hok.fresh (Nat.le_refl _), rfl, fun ys hy => by rw [I.tuple_inj hy hq]; exact hx⟩,
      ⟨⟨y, he2⟩, st'.1.at fun o q => (sb.2 it (Ne.symm hne)).trans q, hne⟩, fun b hb => ?_⟩
    have hb' : b < s.heap.objs.size := by
      rcases List.mem_cons.mp hb with z | z
      · rw [z]; exact hel
      · rw [List.mem_singleton.mp z]; exact hil
    rw [upd_ne (Nat.ne_of_lt hb')]
    exact (hf b hb).1
  done := by
    intro X hP hw hK hc i pins s σ H E I hf st hg
    subst hP hw hK
    obtain ⟨⟨old, he⟩, hit, hne⟩ := st
    obtain ⟨xs, hq, hx⟩ := hg
    obtain ⟨its, rv, p, hz⟩ := I.tuple hq
    obtain ⟨oa, ga, ca, _⟩ := id (show s.heap.IsTuple a its.toArray from p)
    obtain ⟨oi, gi, ci, _⟩ := id hit
    have nai : a ≠ it := apart ga gi ca ci (by decide)
    obtain ⟨f0, f1, f2, f3, f4, f5⟩ := hf it (by simp)
    have ei : i = its.toArray.size := by
      rw [← hx, rv.length, List.size_toArray]
    subst ei
    refine wpAny_pyNext_enum_endD (Draws.tuple (A := X.A.in1) (I.ok.hd hc) it a nai its.toArray) he ⟨hit, p⟩ fun h' eb => ?_
    exact ⟨rfl, I.turned (t' := s.toks) (fun b o hb q => eb b o hb q) f0 f1 f3 f4 f5⟩
  self := fun A i s Q E st h => by
    obtain ⟨⟨_, he⟩, _⟩ := st
    exact wpAny_pyIter_enum he h
/-- enumerate(e), e a tuple -/
def iEnumT (K : PySem.W.Frag) (te : TE) : TI := fun σ H R =>
  te σ H fun v H1 => ∃ a xs, v = .ref a ∧ SqT K H1 a xs ∧ R (IteT K a) H1
theorem pi_enumT {X : Cx} {e : Expr} {te : TE} {p pos tpos : Pos} {elts : List Expr} {kk : Nat} (hg : Gl X "enumerate")
    (hm : X.mg "enumerate" = none) (he : PE X e te) (hs : starEach [e] X.env = (false, eval e X.env) :: starEach [] X.env := by rfl) :
    PI X (.Tuple elts kk tpos) (.Call (.Name "enumerate" p) [e] [] pos) (iEnumT X.K te) := by
  refine ⟨fun pins s σ H R I h => ?_⟩
  refine Call_ (ld_blt I hg hm boot_enumerate (PyProof.Rows.callWith_type1 (args_cons
    (thn (he.run pins s σ H _ I h) fun u s1 ⟨v, H1, I1, r1, q1⟩ => args_nil ?_) hs) hs rfl))
  obtain ⟨a, xs, rfl, hq, q⟩ := q1
  cases r1
  obtain ⟨its, rv, isT, hz⟩ := I1.tuple hq
  refine call_enumT (show s1.heap.IsTuple a its.toArray from isT) fun h' en ti keep => wpAny_pyIter_enum en ?_
  refine ⟨s1.heap.objs.size + 1, [s1.heap.objs.size + 1, s1.heap.objs.size], _, _, H1, rfl, I1.kept (t' := s1.toks) keep,
    turn_enumT a (s1.heap.objs.size + 1) s1.heap.objs.size, ⟨⟨.none, en⟩, ti, Nat.succ_ne_self _⟩, fun b hb => ?_, q⟩
  have le : s1.heap.objs.size ≤ b := by
    rcases List.mem_cons.mp hb with z | z
    · rw [z]; exact Nat.le_add_right _ _
    · rw [List.mem_singleton.mp z]; exact Nat.le_refl _
  exact I1.fpOk le (I1.hok.fresh le)
/-- a loop over such pairs, its body already read -/
theorem for_enumT {K : PySem.W.Frag} {a : Addr} {xs : List V} {B : (L2.St → Hp → Prop) → V → L2.St → Hp → Prop} {nx : L2.St → Hp → Prop} {σ : L2.St} {H : Hp}
    (Pv : Nat → L2.St → Hp → Prop) (h0 : Pv 0 σ H) (hl : ∀ i σ' H', i ≤ xs.length → Pv i σ' H' → SqT K H' a xs)
    (hs : ∀ (i : Nat) x t σ' H', xs[i]? = some x → Pv i σ' H' → H' t = none → B (Pv (i + 1)) (.ref t) σ' (upd H' t (.tup [.int (i : Nat), x])))
    (hd : ∀ σ' H', Pv xs.length σ' H' → nx σ' H') :
    ∃ W : Nat → Nat → L2.St → Hp → Prop, (∃ m, W 0 m σ H) ∧ ∀ i m σ H, W i m σ H →
      ((IteT K a).stop i H ∧ nx σ H) ∨ ((IteT K a).go i H ∧ ∃ N : L2.St → Hp → Prop, (∀ σ' H', N σ' H' → ∃ m', m' < m ∧ W (i + 1) m' σ' H') ∧
        ∀ x H', (IteT K a).yld i H x H' → B N x σ H') := by
  refine ⟨fun i m σ H => m = xs.length - i ∧ i ≤ xs.length ∧ Pv i σ H, ⟨xs.length, by simp, Nat.zero_le _, h0⟩, ?_⟩
  rintro i m σ' H' ⟨rfl, hi, p⟩
  have ql := hl i σ' H' hi p
  by_cases c : i < xs.length
  · refine Or.inr ⟨⟨xs, xs[i], ql, by simp [c]⟩, Pv (i + 1), fun σ2 H2 p2 => ⟨xs.length - (i + 1), by omega, rfl, c, p2⟩, fun v H2 y => ?_⟩
    obtain ⟨t, x, rfl, nt, rfl, e2⟩ := y
    exact hs i x t σ' H' (e2 xs ql) p nt
  · have e : i = xs.length := by omega
    subst e
    exact Or.inl ⟨⟨xs, ql, rfl⟩, hd σ' H' p⟩
/-- .. in a comprehension -/
theorem lc_enumT {K : PySem.W.Frag} {a : Addr} {xs : List V} {gt : TG} {tt : TT} {te : TE} {vs : List Nat} {σ : L2.St} {H1 : Hp} {D : Addr} {Qd : Hp → Prop}
    (Pv : Nat → Hp → Prop) (h0 : Pv 0 (upd H1 D (.lst []))) (hl : ∀ i H, i ≤ xs.length → Pv i H → SqT K H a xs)
    (hs : ∀ (i : Nat) x t H, xs[i]? = some x → Pv i H → H t = none → gt (.ref t) (wipe σ vs) (upd H t (.tup [.int (i : Nat), x])) fun σ2 H2 =>
      wipe σ2 vs = wipe σ vs ∧ tt σ2 H2 fun b H3 => if b = true then te σ2 H3 fun y H4 => ∃ acc, H4 D = some (.lst acc) ∧
        acc.length < sizeLine ∧ Pv (i + 1) (upd H4 D (.lst (acc ++ [y]))) else Pv (i + 1) H3)
    (hd : ∀ H, Pv xs.length H → Qd H) :
    ∃ W : Nat → Nat → Hp → Prop, (∃ m, W 0 m (upd H1 D (.lst []))) ∧ ∀ i m H, W i m H →
      ((IteT K a).stop i H ∧ Qd H) ∨ ((IteT K a).go i H ∧ ∃ Nx : Hp → Prop, (∀ H', Nx H' → ∃ m', m' < m ∧ W (i + 1) m' H') ∧
        ∀ x H', (IteT K a).yld i H x H' → gt x (wipe σ vs) H' fun σ2 H2 => wipe σ2 vs = wipe σ vs ∧ tt σ2 H2 fun b H3 =>
          if b = true then te σ2 H3 fun y H4 => ∃ acc, H4 D = some (.lst acc) ∧ acc.length < sizeLine ∧
            Nx (upd H4 D (.lst (acc ++ [y]))) else Nx H3) := by
  refine ⟨fun i m H => m = xs.length - i ∧ i ≤ xs.length ∧ Pv i H, ⟨xs.length, by simp, Nat.zero_le _, h0⟩, ?_⟩
  rintro i m H ⟨rfl, hi, p⟩
  have ql := hl i H hi p
  by_cases c : i < xs.length
  · refine Or.inr ⟨⟨xs, xs[i], ql, by simp [c]⟩, Pv (i + 1), fun H2 p2 => ⟨xs.length - (i + 1), by omega, rfl, c, p2⟩, fun v H2 y => ?_⟩
    obtain ⟨t, x, rfl, nt, rfl, e2⟩ := y
    exact hs i x t H (e2 xs ql) p nt
  · have e : i = xs.length := by omega
    subst e
    exact Or.inl ⟨⟨xs, ql, rfl⟩, hd H p⟩
end Tw

set_option Elab.async false
set_option linter.all false
set_option maxRecDepth 100000
set_option maxHeartbeats 8000000
local macro_rules | `(tactic| walk_at "rd") => `(tactic| dsimp only [Evl.tCut, L2.tSeq, L2.tNext, L2.tRet, L2.tRetN, L2.tAsg, L2.gName, L2.tIfS, L2.tDrop, L2.tCons, L2.tNil, L2.tC, L2.tVar, L2.tCB, L2.tAndV, L2.tOrV, L2.tNotV, L2.tB, L2.tTest, L2.tOp, L2.tUn, L2.tNot, L2.tAnd, L2.tOr, L2.tIf, L2.tCall, L2.tTup, L2.tLst, L2.tNotT, L2.tYes, L2.gTup, L2.gCons, L2.gNil, L2.gSub, L2.tBM0, L2.tBM, L2.tWhile, L2.tFor, L2.iRng1, L2.iRng2, L2.tAugS, Tw.iEnumT, L2.tCKw, L2.tAug, L2.ipI, RT.iRevA, L2.iRevR, L2.tPar, L2.tPar3, L2.tSl, L2.tNoPart, L2.tPart, Tw.tRevT, L2.rAdd, L2.rSub, L2.tBits])
namespace K25
open PySem PySem.Spec PyProof.Rows L2 Tw
/-! powers, numbers packed and unpacked -/
/-- a loop over a tuple turned round, its body already read -/
theorem for_rev {K : PySem.W.Frag} {a : Addr} {xs : List V} {B : (L2.St → Hp → Prop) → V → L2.St → Hp → Prop} {nx : L2.St → Hp → Prop} {σ : L2.St} {H : Hp} (Pv : Nat → L2.St → Hp → Prop) (h0 : Pv 0 σ H)
    (hl : ∀ i σ' H', i ≤ xs.length → Pv i σ' H' → SqT K H' a xs)
    (hs : ∀ (i : Nat) x σ' H', i < xs.length → xs[xs.length - 1 - i]? = some x → Pv i σ' H' → B (Pv (i + 1)) x σ' H') (hd : ∀ σ' H', Pv xs.length σ' H' → nx σ' H') :
    ∃ W : Nat → Nat → L2.St → Hp → Prop, (∃ m, W 0 m σ H) ∧ ∀ i m σ H, W i m σ H →
      ((RT.ItvT K a xs.length).stop i H ∧ nx σ H) ∨ ((RT.ItvT K a xs.length).go i H ∧ ∃ N : L2.St → Hp → Prop, (∀ σ' H', N σ' H' → ∃ m', m' < m ∧ W (i + 1) m' σ' H') ∧ ∀ x H', (RT.ItvT K a xs.length).yld i H x H' → B N x σ H') := by
  refine ⟨fun i m σ H => m = xs.length - i ∧ i ≤ xs.length ∧ Pv i σ H, ⟨xs.length, by simp, Nat.zero_le _, h0⟩, ?_⟩
  rintro i m σ' H' ⟨rfl, hi, p⟩
  have ql := hl i σ' H' hi p
  by_cases c : i < xs.length
  · have hx : xs.length - 1 - i < xs.length := by omega
    refine Or.inr ⟨⟨c, xs, xs[xs.length - 1 - i], ql, List.getElem?_eq_getElem hx⟩, Pv (i + 1), fun σ2 H2 p2 => ⟨xs.length - (i + 1), by omega, rfl, c, p2⟩, fun x H2 y => ?_⟩
    obtain ⟨e1, e2⟩ := y
    subst e1
    exact hs i x σ' _ c (e2 xs ql) p
  · have e : i = xs.length := by omega
    subst e
    exact Or.inl ⟨Nat.le_refl _, hd σ' H' p⟩
theorem ip_mulW {X : Cx} : PIp X .Mult (fun x y H Q => ∃ i j, x = .int i ∧ y = .int j ∧ CMulW i j ∧ Q (.int (i * j)) H) := by
  intro pins s σ H x y v u Q I r1 r2 h
  obtain ⟨i, j, rfl, rfl, c, q⟩ := h
  obtain ⟨t, rfl⟩ := r1
  obtain ⟨t', rfl⟩ := r2
  exact PyProof.Rows.imul_int ⟨.int _, H, I.tok _, ⟨_, rfl⟩, q⟩ c.ok
theorem pow_turn {b f : Int} {k : Nat} : (if k % 2 = 1 then f * b else f) * (b * b) ^ (k / 2) = f * b ^ k := by
  have e : b ^ k = (b * b) ^ (k / 2) * b ^ (k % 2) := by
    conv => lhs; rw [← Nat.div_add_mod k 2]
    rw [Int.pow_add, Int.pow_mul]
    congr 2
    rw [Int.pow_succ, Int.pow_succ, Int.pow_zero, Int.one_mul]
  rcases Nat.mod_two_eq_zero_or_one k with z | z
  · rw [if_neg (by omega), e, z, Int.pow_zero, Int.mul_one]
  · rw [if_pos z, e, z]
    rw [show b ^ 1 = b from by rw [Int.pow_succ, Int.pow_zero, Int.one_mul]]
    grind
def spPower : Sp := fun vs H Q _ => ∃ (m : Int) (k B : Nat), vs = [.int m, .int (k : Int)] ∧ Wd B m ∧ 2 * (k * B) + 10 ≤ 1000000 ∧ k ≤ 1000 ∧ ∀ H', Same H H' → Q (.int (m ^ k)) H'
def spPacked : Sp := fun vs H Q _ => ∃ (u : V) (row : List Int) (b : Nat), vs = [u, .int (b : Int)] ∧ Ro H u row ∧ row.length ≤ 100 ∧ b ≤ 10000 ∧ nm row < 2 ^ b ∧ ∀ H', Same H H' → Q (.int (ev (2 ^ b) row)) H'
def spUnpacked : Sp := fun vs H Q _ => ∃ (b : Nat) (r : List Int), vs = [.int (ev (2 ^ b) r), .int (b : Int)] ∧ okR r ∧ r.length ≤ 1000 ∧ 2 ≤ b ∧ b ≤ 10000 ∧ (∀ c ∈ r, 2 * c.natAbs < 2 ^ b) ∧ ∀ z H', Same H H' → Ro H' z r → Q z H'
theorem nm_drop : ∀ (r : List Int) (k : Nat), nm (r.drop k) ≤ nm r
  | [], k => by simp
  | a :: r, 0 => Nat.le_refl _
  | a :: r, k + 1 => by rw [List.drop_succ_cons, nm]; have := nm_drop r k; omega
theorem ev_wd {b : Nat} {r : List Int} (h : nm r < 2 ^ b) : Wd (b * r.length + b) (ev (2 ^ b) r) := by
  have h1 := ev_le (2 ^ b) (Nat.pow_pos (by decide)) (n := r.length) (r := r) (by omega)
  rw [← Nat.pow_mul] at h1
  unfold Wd
  have e : ((2 ^ b : Nat) : Int) = (2 : Int) ^ b := by rw [Int.natCast_pow]; rfl
  rw [e] at h1
  refine Nat.lt_of_le_of_lt h1 ?_
  rw [Nat.pow_add, Nat.mul_comm]
  exact Nat.mul_lt_mul_of_le_of_lt (Nat.le_refl _) h (Nat.pow_pos (by decide))
theorem drop_top {r : List Int} {k : Nat} (h : k < r.length) : r.drop (r.length - (k + 1)) = r[r.length - 1 - k] :: r.drop (r.length - k) := by
  have e1 : r.length - (k + 1) = r.length - 1 - k := by omega
  have e2 : r.length - k = r.length - 1 - k + 1 := by omega
  rw [e1, e2, ← List.drop_eq_getElem_cons (by omega)]
section
variable {P : Program} {w : World} {K : PySem.W.Frag} {mg : Str → Option Value} {base : Heap}
theorem scPower : FnScope ["base", "many", "found"] ["base", "many"] (defScope sPower) := ⟨rfl, rfl, rfl, by decide +kernel, rfl, by decide +kernel, by decide +kernel⟩
theorem ok_power (D : Def K mg "power" sPower ["base", "many"]) : Cal P w K mg base "power" 1 ["base", "many"] spPower := by
  refine D.ok scPower (fun vs H Q E h => ?_) (fun f cdv A out s H vs Q E hr h => ?_)
  · obtain ⟨m, k, B, rfl, _⟩ := h; rfl
  obtain ⟨m, k, B, rfl, mB, kB, k1, q⟩ := h
  refine ⟨_, pss_cons (ps_set (i := 2) scPower.nd rfl (Or.inl rfl) pe_int)
    (pss_cons (ps_while PassesOwn.never (pt_truth (pv 1) (fun _ => rfl))
      (Evl.pss_cut (ps_if (pt_truth (pe_op op_odd (pv 1) pe_int) (fun _ => rfl)) (pss_one (ps_aug (i := 2) scPower.nd rfl (Or.inl rfl) (pv 0) ip_mulW)) pss_nil)
      (pss_cons (ps_aug (i := 1) scPower.nd rfl (Or.inl rfl) pe_int ip_half)
      (pss_one (ps_if (pt_truth (pv 1) (fun _ => rfl)) (pss_one (ps_aug (i := 0) scPower.nd rfl (Or.inl rfl) (pv 0) ip_mulW)) pss_nil)))))
    (pss_one (ps_ret (pv 2)))), ?_⟩
  walk_at "rd"
  refine ⟨fun j σ H' => ∃ (b f : Int) (x y : Nat), σ = [some (.int b), some (.int (j : Int)), some (.int f)] ∧ b = m ^ x ∧ f = m ^ y ∧ y + x * j = k ∧ f * b ^ j = m ^ k ∧ H' = H, ⟨k, m, 1, 1, 0, rfl, by rw [Int.pow_succ, Int.pow_zero, Int.one_mul], by rw [Int.pow_zero], by omega, by rw [Int.one_mul], rfl⟩, ?_⟩
  rintro j σ H1 ⟨b, f, x, y, rfl, eb, ef, xy, e, rfl⟩
  refine ⟨.int j, rfl, _, rfl, ?_⟩
  by_cases c : j = 0
  · subst c
    refine iteF ⟨_, rfl, ?_⟩
    have : f = m ^ k := by simpa using e
    rw [this]
    exact q _ (Same.refl _)
  rw [show ((j : Int) != 0) = true from bne_iff_ne.mpr (by omega)]
  have xk : x ≤ k := by
    have := Nat.mul_le_mul_left x (show 1 ≤ j by omega)
    omega
  have yk : y ≤ k := by omega
  have wb : Wd (k * B + 1) b := by rw [eb]; exact (mB.pow x).up (by have := Nat.mul_le_mul_right B xk; omega)
  have wf : Wd (k * B + 1) f := by rw [ef]; exact (mB.pow y).up (by have := Nat.mul_le_mul_right B yk; omega)
  refine iteT ⟨fun σ' H' => ∃ (j' : Nat) (b f : Int) (x y : Nat), j' < j ∧ σ' = [some (.int b), some (.int (j' : Int)), some (.int f)] ∧ b = m ^ x ∧ f = m ^ y ∧ y + x * j' = k ∧ f * b ^ j' = m ^ k ∧ H' = H1, fun σ' H' ⟨j', b', f', x', y', a1, a2, a3, a4, a5, a6, a7⟩ => ⟨j', a1, b', f', x', y', a2, a3, a4, a5, a6, a7⟩, ?_⟩
  refine ⟨fun σ' H' => ∃ y', σ' = [some (.int b), some (.int (j : Int)), some (.int (if j % 2 = 1 then f * b else f))] ∧ H' = H1 ∧ (if j % 2 = 1 then f * b else f) = m ^ y' ∧ y' = y + x * (j % 2), ?_, ?_⟩
  · refine ⟨.int j, rfl, j, rfl, rfl, _, rfl, ?_⟩
    rcases Nat.mod_two_eq_zero_or_one j with z | z
    · rw [z]
      refine iteF ⟨y, ?_, rfl, ?_, by omega⟩
      · rw [if_neg (by omega)]
      · rw [if_neg (by omega)]; exact ef
    · rw [z]
      refine iteT ⟨.int f, rfl, .int b, rfl, f, b, rfl, rfl, wf.cm wb (by omega), y + x, ?_, rfl, ?_, by omega⟩
      · rw [if_pos rfl]
        rfl
      · rw [if_pos rfl, ef, eb, Int.pow_add]
  · rintro σ2 H2 ⟨y', rfl, rfl, ey, yx⟩
    refine ⟨.int j, rfl, j, rfl, rfl, .int ((j / 2 : Nat) : Int), rfl, _, rfl, ?_⟩
    have tn := pow_turn (b := b) (f := f) (k := j)
    generalize (if j % 2 = 1 then f * b else f) = f' at tn ey ⊢
    have jl : j / 2 < j := Nat.div_lt_self (by omega) (by decide)
    have jd : y' + 2 * x * (j / 2) = k := by
      have := Nat.div_add_mod j 2
      have h2 : x * j = x * (2 * (j / 2) + j % 2) := by rw [this]
      rw [Nat.mul_add] at h2
      have h3 : x * (2 * (j / 2)) = 2 * x * (j / 2) := by rw [← Nat.mul_assoc, Nat.mul_comm x 2]
      omega
    by_cases z : j / 2 = 0
    · rw [z] at tn jd ⊢
      refine iteF ⟨0, b, f', x, y', by omega, rfl, eb, ey, by omega, ?_, rfl⟩
      rw [← e, ← tn]
      simp
    · rw [show (((j / 2 : Nat) : Int) != 0) = true from bne_iff_ne.mpr (by omega)]
      refine iteT ⟨.int b, rfl, .int b, rfl, b, b, rfl, rfl, wb.cm wb (by omega), ?_⟩
      exact ⟨j / 2, b * b, f', 2 * x, y', jl, rfl, by rw [eb, ← Int.pow_add]; congr 1; omega, ey, jd, by rw [tn, e], rfl⟩
theorem scPacked : FnScope ["row", "bits", "total", "number"] ["row", "bits"] (defScope sPacked) := ⟨rfl, rfl, rfl, by decide +kernel, rfl, by decide +kernel, by decide +kernel⟩
theorem ok_packed (D : Def K mg "packed" sPacked ["row", "bits"]) (nb : Nb mg) : Cal P w K mg base "packed" 1 ["row", "bits"] spPacked := by
  refine D.ok scPacked (fun vs H Q E h => ?_) (fun f cdv A out s H vs Q E hr h => ?_)
  · obtain ⟨u, row, b, rfl, _⟩ := h; rfl
  obtain ⟨u, row, b, rfl, ⟨pu, rfl, eu⟩, lr, b1, nmr, q⟩ := h
  refine ⟨_, pss_cons (ps_set (i := 2) scPacked.nd rfl (Or.inl rfl) pe_int)
    (pss_cons (ps_for PassesOwn.never rfl (RT.pi_revA (by rfl) nb.rev (pv 0)) (pg_name (i := 3) scPacked.nd rfl (Or.inl rfl))
      (pss_one (ps_set (i := 2) scPacked.nd rfl (Or.inl rfl) (pe_op op_add (pe_op op_shlN (pv 2) (pv 1)) (pv 3)))))
    (pss_one (ps_ret (pv 2)))), ?_⟩
  walk_at "rd"
  refine ⟨.ref pu, rfl, pu, row.map V.int, rfl, .inr ⟨SqT.of eu, for_rev (xs := row.map V.int) (fun i σ H' => ∃ x3, σ = [some (.ref pu), some (.int (b : Int)), some (.int (ev (2 ^ b) (row.drop (row.length - i)))), x3] ∧ H' = H) ?_ ?_ ?_ ?_⟩⟩
  · refine ⟨none, ?_, rfl⟩
    rw [Nat.sub_zero, List.drop_length]
    rfl
  · rintro i σ H1 hi ⟨x3, rfl, rfl⟩
    exact SqT.of eu
  · rintro i x σ H1 hi hx ⟨x3, rfl, rfl⟩
    rw [List.length_map] at hi hx
    have hix : row.length - 1 - i < row.length := by omega
    rw [List.getElem?_map, List.getElem?_eq_getElem hix] at hx
    cases hx
    have w0 := ev_wd (b := b) (r := row.drop (row.length - i)) (Nat.lt_of_le_of_lt (nm_drop _ _) nmr)
    rw [List.length_drop] at w0
    have e := drop_top hi
    refine ⟨_, rfl, _, rfl, _, b, rfl, rfl, ⟨by omega, ?_⟩, _, rfl, _, _, rfl, rfl, some (.int row[row.length - 1 - i]), ?_, rfl⟩
    · have := intBits_le w0
      have h2 := Nat.mul_le_mul_left b (show row.length - (row.length - i) ≤ 100 by omega)
      have h3 : (2 : Int) ^ 27 = 134217728 := by decide +kernel
      omega
    · rw [e, ev]
      rw [Int.mul_comm, Int.add_comm]
      rfl
  · rintro σ H1 ⟨x3, rfl, rfl⟩
    rw [List.length_map, Nat.sub_self, List.drop_zero]
    exact ⟨_, rfl, q _ (Same.refl _)⟩
theorem scUnpacked : FnScope ["value", "bits", "half", "mask", "found", "number"] ["value", "bits"] (defScope sUnpacked) := ⟨rfl, rfl, rfl, by decide +kernel, rfl, by decide +kernel, by decide +kernel⟩
theorem ok_unpacked (D : Def K mg "unpacked" sUnpacked ["value", "bits"]) (nb : Nb mg) : Cal P w K mg base "unpacked" 1 ["value", "bits"] spUnpacked := by
  refine D.ok scUnpacked (fun vs H Q E h => ?_) (fun f cdv A out s H vs Q E hr h => ?_)
  · obtain ⟨b, r, rfl, _⟩ := h; rfl
  obtain ⟨b, r, rfl, okr, lr, b2, b1, hc, q⟩ := h
  refine ⟨_, pss_cons (ps_set (i := 2) scUnpacked.nd rfl (Or.inl rfl) (pe_op op_oneShl pe_int (pe_op op_sub (pv 1) pe_int)))
    (pss_cons (ps_set (i := 3) scUnpacked.nd rfl (Or.inl rfl) (pe_op op_sub (pe_op op_oneShl pe_int (pv 1)) pe_int))
    (pss_cons (ps_set (i := 4) scUnpacked.nd rfl (Or.inl rfl) (pe_lst pa_nil))
    (pss_cons (ps_while PassesOwn.never (pt_truth (pv 0) (by intro _; rfl))
      (pss_cons (ps_set (i := 5) scUnpacked.nd rfl (Or.inl rfl) (pe_op op_sub (pe_op op_andM (pe_op op_add (pv 0) (pv 2)) (pv 3)) (pv 2)))
    (pss_cons (ps_expr (pe_bm PySem.F.plainAttrs_list PySem.F.slot_list_append PySem.F.type_list_append mt_append (pv 4) (pa_cons (pv 5) pa_nil)))
    (pss_one (ps_set (i := 0) scUnpacked.nd rfl (Or.inl rfl) (pe_op op_shrN (pe_op op_sub (pv 0) (pv 5)) (pv 1)))))))
    (pss_one (ps_ret (pe_callTy (T := "tuple") call_tuple_of (by rfl) nb.tup (by decide +kernel) (pa_cons (pv 4) pa_nil))))))), ?_⟩
  walk_at "rd"
  refine ⟨_, rfl, _, _, rfl, rfl, ?_⟩
  dsimp only
  rw [show (b : Int) - 1 = ((b - 1 : Nat) : Int) by omega]
  refine ⟨b - 1, rfl, rfl, by omega, _, rfl, b, rfl, rfl, by omega, _, _, rfl, rfl, sz (by simp), fun L nL => ?_⟩
  have s0 := same_new (o := .lst []) nL
  have X2 : (2 : Int) ^ b = 2 * 2 ^ (b - 1) := by
    have h1 : b = (b - 1) + 1 := by omega
    have h2 : (2 : Int) ^ b = 2 ^ ((b - 1) + 1) := by rw [← h1]
    rw [h2, Int.pow_succ, Int.mul_comm]
  have eN : ((2 ^ b : Nat) : Int) = (2 : Int) ^ b := by rw [Int.natCast_pow]; rfl
  have hcz : ∀ c ∈ r, -(2 : Int) ^ (b - 1) ≤ c ∧ c < 2 ^ (b - 1) := fun c h => by
    have := hc c h
    omega
  refine ⟨fun m σ H' => ∃ i x5, m = r.length - i ∧ i ≤ r.length ∧ σ = [some (.int (ev (2 ^ b) (r.drop i))), some (.int (b : Int)), some (.int (2 ^ (b - 1))), some (.int (2 ^ b - 1)), some (.ref L), x5] ∧ Same H H' ∧ H' L = some (.lst ((r.take i).map V.int)), ⟨r.length, 0, none, rfl, Nat.zero_le _, rfl, s0, upd_same⟩, ?_⟩
  rintro m σ H1 ⟨i, x5, rfl, il, rfl, s1, eL⟩
  refine ⟨_, rfl, _, rfl, ?_⟩
  by_cases c : i = r.length
  · have e0 : ev (2 ^ b) (r.drop i) = 0 := by rw [c, List.drop_length]; rfl
    rw [e0]
    refine iteF ⟨.ref L, rfl, L, _, rfl, .inl ⟨SqL.of eL, fun p np => ?_⟩⟩
    rw [c, List.take_length] 
    exact q _ _ (s1.trans (same_new np)) ⟨p, rfl, upd_same⟩
  have hi : i < r.length := by omega
  have ed : r.drop i = r[i] :: r.drop (i + 1) := List.drop_eq_getElem_cons hi
  have okd : okR (r.drop i) := fun z hz => by
    rw [List.getLast?_drop, if_neg (by omega)] at hz
    exact okr z hz
  have v0 : ev (2 ^ b) (r.drop i) ≠ 0 := by
    rw [← eN]
    exact ev_ne okd (fun z => by have := congrArg List.length z; rw [List.length_drop] at this; simp at this; omega) fun z hz => by have := hc z (List.mem_of_mem_drop hz); omega
  rw [show (ev (2 ^ b) (r.drop i) != 0) = true from bne_iff_ne.mpr v0]
  have hz := hcz r[i] (List.getElem_mem _)
  have ev1 : ev (2 ^ b) (r.drop i) = r[i] + 2 ^ b * ev (2 ^ b) (r.drop (i + 1)) := by rw [ed, ev]
  have em : (ev (2 ^ b) (r.drop i) + 2 ^ (b - 1)) % 2 ^ b = r[i] + 2 ^ (b - 1) := by
    rw [ev1, show r[i] + 2 ^ b * ev (2 ^ b) (r.drop (i + 1)) + 2 ^ (b - 1) = r[i] + 2 ^ (b - 1) + 2 ^ b * ev (2 ^ b) (r.drop (i + 1)) by omega, Int.add_mul_emod_self_left]
    exact Int.emod_eq_of_lt (by omega) (by omega)
  refine iteT ⟨fun σ' H' => ∃ x5, σ' = [some (.int (ev (2 ^ b) (r.drop (i + 1)))), some (.int (b : Int)), some (.int (2 ^ (b - 1))), some (.int (2 ^ b - 1)), some (.ref L), x5] ∧ Same H H' ∧ H' L = some (.lst ((r.take (i + 1)).map V.int)), fun σ' H' ⟨x5, h1, h2, h3⟩ => ⟨r.length - (i + 1), by omega, i + 1, x5, rfl, hi, h1, h2, h3⟩, ?_⟩
  refine ⟨_, rfl, _, rfl, _, _, rfl, rfl, _, rfl, _, b, rfl, rfl, _, rfl, _, _, rfl, rfl, ?_⟩
  rw [em]
  dsimp only
  rw [show r[i] + 2 ^ (b - 1) - 2 ^ (b - 1) = r[i] by omega]
  refine ⟨_, rfl, .inl ⟨rfl, _, SqL.of eL⟩, _, rfl, L, _, _, rfl, rfl, eL, lt_line (by rw [List.length_map, List.length_take]; omega), _, rfl, _, rfl, _, _, rfl, rfl, _, rfl, _, b, rfl, rfl, some (.int r[i]), ?_, ?_, ?_⟩
  · have pb : (0 : Int) < 2 ^ b := Int.pow_pos (by decide)
    have e : (ev (2 ^ b) (r.drop i) - r[i]) / 2 ^ b = ev (2 ^ b) (r.drop (i + 1)) := by
      rw [ev1, show r[i] + 2 ^ b * ev (2 ^ b) (r.drop (i + 1)) - r[i] = 2 ^ b * ev (2 ^ b) (r.drop (i + 1)) by omega]
      exact Int.mul_ediv_cancel_left _ (by omega)
    rw [e]
    rfl
  · exact fun x o e => by rw [upd_ne (ne_of_none e nL)]; exact s1 _ _ e
  · rw [upd_same, List.take_add_one, List.getElem?_eq_getElem hi, List.map_append]
    rfl
end
end K25

set_option Elab.async false
set_option linter.all false
set_option maxRecDepth 100000
set_option maxHeartbeats 4000000
local macro_rules | `(tactic| walk_at "rd") => `(tactic| dsimp only [Evl.tCut, L2.tSeq, L2.tNext, L2.tRet, L2.tRetN, L2.tAsg, L2.gName, L2.tIfS, L2.tDrop, L2.tCons, L2.tNil, L2.tC, L2.tVar, L2.tCB, L2.tAndV, L2.tOrV, L2.tNotV, L2.tB, L2.tTest, L2.tOp, L2.tUn, L2.tNot, L2.tAnd, L2.tOr, L2.tIf, L2.tCall, L2.tTup, L2.tLst, L2.tNotT, L2.tYes, L2.gTup, L2.gCons, L2.gNil, L2.gSub, L2.tBM0, L2.tBM, L2.tWhile, L2.tFor, L2.iRng1, L2.tAug, L2.ipI, RT.iRevA, L2.tPar, L2.tPar3, L2.tSl, L2.tNoPart, L2.tPart, Tw.tRevT])
namespace K25
open PySem PySem.Spec PyProof.Rows L2 Tw
def spScR : Sp := fun vs H Q _ => ∃ u r c, vs = [u, .int c] ∧ Ro H u r ∧ okR r ∧ r.length ≤ 100 ∧ c.natAbs < 2 ^ 64 ∧ ∀ z t H', Same H H' → Ro H' z t → okR t → (∀ k, g t k = c * g r k) → Q z H'
theorem g_map (c : Int) (r : List Int) (k : Nat) : g (r.map fun x => c * x) k = c * g r k := by
  rcases Nat.lt_or_ge k r.length with h | h
  · rw [g_some (by rw [List.length_map]; exact h), g_some h, List.getElem_map]
  · rw [g_none (by rw [List.length_map]; exact h), g_none h, Int.mul_zero]
theorem okR_scaled {r : List Int} {c : Int} (h : okR r) (n : c ≠ 0) : okR (r.map fun x => c * x) := fun d hd => by
  rw [List.getLast?_map] at hd
  cases e : r.getLast? with
  | none => rw [e] at hd; cases hd
  | some x =>
    rw [e] at hd
    cases hd
    exact Int.mul_ne_zero n (h x e)
def spLScaled : Sp := fun vs H Q _ => ∃ u r c b, vs = [u, .int c] ∧ Ro H u r ∧ r.length ≤ 100 ∧ c.natAbs < 2 ^ 64 ∧ SB b r ∧ ∀ z t H', Same H H' → Ro H' z t → okR t → t.length ≤ r.length → SB (c.natAbs * b) t → (∀ k, g t k = c * g r k) → Q z H'
def spDerP : Sp := fun vs H Q _ => ∃ u p b, vs = [u] ∧ Po H u p ∧ okP p ∧ Bd 8 b p ∧ ∀ z t H', Same H H' → Po H' z t → okP t → (∀ i j, co t i j = ((i + 1 : Nat) : Int) * co p (i + 1) j) → Q z H'
/-- the last of a product -/
theorem cv_top {f h : Nat → Int} {n m : Nat} (zf : ∀ i, n < i → f i = 0) (zh : ∀ i, m < i → h i = 0) : cv f h (n + m) = f n * h m := by
  unfold cv
  have e : S (n + m + 1) (fun i => f i * h (n + m - i)) = S (n + 1) (fun i => f i * h (n + m - i)) := S_more (by omega) fun i hi => by rw [zf i (by omega), Int.zero_mul]
  rw [e, S, S_ext (h := fun _ => 0) n fun i hi => by rw [zh _ (by omega), Int.mul_zero], S_zero, Int.zero_add]
  congr 2
  omega
theorem okR_last {r : List Int} (h : okR r) (n : r ≠ []) : g r (r.length - 1) ≠ 0 := by
  have l : 0 < r.length := List.length_pos_iff.mpr n
  have e : r.getLast? = some r[r.length - 1] := by rw [List.getLast?_eq_getElem?, List.getElem?_eq_getElem (by omega)]
  rw [g_some (by omega)]
  exact h _ e
theorem okR_prod {a b l : List Int} (ha : okR a) (hb : okR b) (na : a ≠ []) (nb : b ≠ []) (ll : l.length = a.length + b.length - 1) (cl : ∀ k, g l k = cv (g b) (g a) k) : okR l := fun c hc => by
  have la : 0 < a.length := List.length_pos_iff.mpr na
  have lb : 0 < b.length := List.length_pos_iff.mpr nb
  rw [List.getLast?_eq_getElem?] at hc
  have e : g l (l.length - 1) = c := by
    unfold g
    rw [List.getD_eq_getElem?_getD, hc]
    rfl
  rw [cl, show l.length - 1 = (b.length - 1) + (a.length - 1) from by omega, cv_top (fun i hi => g_none (by omega)) (fun i hi => g_none (by omega))] at e
  rw [← e]
  exact Int.mul_ne_zero (okR_last hb nb) (okR_last ha na)
theorem co_rw (p : List (List Int)) (i j : Nat) : co p i j = g (rw' p i) j := rfl
theorem co_none {p : List (List Int)} {i : Nat} (h : p.length ≤ i) (j : Nat) : co p i j = 0 := by
  rw [co_rw, rw_none h]
  rfl
theorem lead_row {p : List (List Int)} (h : okP p) (n : p ≠ []) : okR (rw' p (p.length - 1)) ∧ rw' p (p.length - 1) ≠ [] := by
  have l : 0 < p.length := List.length_pos_iff.mpr n
  have e : p.getLast? = some p[p.length - 1] := by rw [List.getLast?_eq_getElem?, List.getElem?_eq_getElem (by omega)]
  refine ⟨okR_rw h.1 _, ?_⟩
  rw [rw_some (by omega)]
  exact h.2 _ e
section
variable {P : Program} {w : World} {K : PySem.W.Frag} {mg : Str → Option Value} {base : Heap}
theorem scTrimmed : FnScope ["numbers", "last"] ["numbers"] (defScope sTrimmed) := ⟨rfl, rfl, rfl, by decide +kernel, rfl, by decide +kernel, by decide +kernel⟩
theorem cut_to {α : Type} (xs : List V) {m : Nat} (h : m ≤ xs.length) : L2.cutV xs none (some (m : Int)) = xs.take m := by
  unfold L2.cutV
  rw [HT.sIx_nat, HT.sIx_none, List.drop_zero, Nat.sub_zero, Nat.min_eq_left h]
theorem ok_trimmed (D : Def K mg "trimmed" sTrimmed ["numbers"]) (nb : Nb mg) : Cal P w K mg base "trimmed" 1 ["numbers"] spTrimI := by
  refine D.ok scTrimmed (fun vs H Q E h => ?_) (fun f cdv A out s H vs Q E hr h => ?_)
  · obtain ⟨p, l, rfl, _⟩ := h; rfl
  obtain ⟨p, l, rfl, e, q⟩ := h
  refine ⟨_, pss_cons (ps_set (i := 1) scTrimmed.nd rfl (Or.inl rfl) (pe_callB (id := "len") (r := rLn K) call_len_seq (by rfl) nb.len PySem.boot_len (pa_cons (pv 0) pa_nil)))
    (pss_cons (ps_while PassesOwn.never (PW.pt (pw_and (pt_truth (pv 1) (fun _ => rfl)) (pw_and1 (pt_cmpR op_eq (pe_ix ix_list (pv 0) (pe_op op_sub (pv 1) pe_int) (fun _ _ => rfl)) pe_int (nomark _)))))
      (pss_one (ps_aug (i := 1) scTrimmed.nd rfl (Or.inl rfl) pe_int ip_sub)))
    (pss_one (ps_ret (pe_callTy (T := "tuple") call_tuple_of (by rfl) nb.tup (by decide +kernel) (pa_cons (pe_slice sl_list (pv 0) po_none (po_some (pv 1))) pa_nil))))), ?_⟩
  walk_at "rd"
  refine ⟨.ref p, rfl, p, _, rfl, .inl (SqL.of e), ?_⟩
  have hz0 : ∀ (i : Nat) a, l.length ≤ i → l[i]? = some a → (a == 0) = true := by
    intro i a hi ea
    rw [List.getElem?_eq_none hi] at ea
    cases ea
  refine ⟨fun m σ H' => m ≤ l.length ∧ (∀ (i : Nat) a, m ≤ i → l[i]? = some a → (a == 0) = true) ∧ σ = [some (.ref p), some (.int (m : Int))] ∧ H' = H, ⟨l.length, Nat.le_refl _, hz0, by rw [List.length_map]; rfl, rfl⟩, ?_⟩
  rintro m σ H1 ⟨hm, hz, rfl, rfl⟩
  refine ⟨.int m, rfl, _, rfl, ?_⟩
  have fin : (m = 0 ∨ ∃ a, l[m - 1]? = some a ∧ (a == 0) = false) → ∃ v, [some (V.ref p), some (V.int (m : Int))][0]? = some (some v) ∧ ∃ v1, [some (V.ref p), some (V.int (m : Int))][1]? = some (some v1) ∧ ∃ b, v1 = V.int b ∧ rSlL K v none (some b) H1 fun x H2 => ∃ q' ys, [x] = [.ref q'] ∧ ((SqL K H2 q' ys ∧ ∀ t, H2 t = none → Q (.ref t) (upd H2 t (.tup ys))) ∨ (SqT K H2 q' ys ∧ Q (.ref q') H2)) := fun hb => by
    refine ⟨.ref p, rfl, .int m, rfl, m, rfl, p, _, rfl, SqL.of e, fun t nt => ⟨t, _, rfl, .inl ⟨SqL.of upd_same, fun t2 nt2 => ?_⟩⟩⟩
    refine q _ _ ((same_new nt).trans (same_new nt2)) ⟨t2, rfl, ?_⟩
    rw [upd_same, cut_to (α := Nat) _ (by rw [List.length_map]; exact hm), ← List.map_take]
    congr 3
    exact (trimBy_take _ l m hm hz hb).symm
  by_cases c : m = 0
  · subst c
    exact iteF (fin (.inl rfl))
  rw [show ((m : Int) != 0) = true from bne_iff_ne.mpr (by omega)]
  obtain ⟨j, rfl⟩ : ∃ j, m = j + 1 := ⟨m - 1, by omega⟩
  have hj : j < l.length := by omega
  have ej : ((j + 1 : Nat) : Int) - 1 = (j : Int) := by omega
  refine iteT ⟨.ref p, rfl, .int (j + 1 : Nat), rfl, _, _, rfl, rfl, ?_⟩
  walk_at "rd"
  rw [ej]
  refine ⟨p, _, _, .int l[j], rfl, rfl, SqL.of e, atI_nat (by rw [List.getElem?_map, List.getElem?_eq_getElem hj]; rfl), rfl, _, rfl, ?_⟩
  rw [dec_int]
  cases z : (l[j] == 0) with
  | true =>
    refine iteT ⟨fun σ' H' => σ' = [some (.ref p), some (.int (j : Int))] ∧ H' = H1, fun σ' H' h => ⟨j, by omega, by omega, fun i a hi ea => ?_, h.1, h.2⟩, .int (j + 1 : Nat), rfl, _, _, rfl, rfl, ?_, rfl⟩
    · rcases Nat.lt_or_eq_of_le hi with y | y
      · exact hz i a y ea
      · subst y
        rw [List.getElem?_eq_getElem hj] at ea
        cases ea
        exact z
    · show [some (V.ref p), some (V.int (((j + 1 : Nat) : Int) - 1))] = _
      rw [ej]
  | false => exact iteF (fin (.inr ⟨l[j], List.getElem?_eq_getElem hj, z⟩))
theorem scLScaled : FnScope ["_law_row_here", "_law_by", "_law_each"] ["_law_row_here", "_law_by"] (defScope sLScaled) := ⟨rfl, rfl, rfl, by decide +kernel, rfl, by decide +kernel, by decide +kernel⟩
theorem ok_lscaled (D : Def K mg "_law_scaled" sLScaled ["_law_row_here", "_law_by"]) (c1 : Cal P w K mg base "_law_trim" 1 ["_law_some_here"] spTrim) : Cal P w K mg base "_law_scaled" 2 ["_law_row_here", "_law_by"] spLScaled := by
  have c2 := c1.imp trim_int
  refine D.ok scLScaled (fun vs H Q E h => ?_) (fun f cdv A out s H vs Q E hr h => ?_)
  · obtain ⟨u, r, c, b, rfl, _⟩ := h; rfl
  obtain ⟨u, r, c, b, rfl, hu, lr, c64, br, q⟩ := h
  refine ⟨_, pss_one (ps_ret (pe_cal c2 hr (by decide) (by rfl) (pa_cons
      (pe_lc (own := [("_law_each", 2)]) (g := gName 2) (tt := tYes) rfl scLScaled.nd (pi_tup (pv 0)) (blkOk_by (N := ["_law_row_here", "_law_by", "_law_each"]) (sc := defScope sLScaled) (by decide +kernel))
        (fun _ _ _ _ _ => pg_name (i := 2) scLScaled.nd rfl (Or.inl rfl)) (fun _ _ _ _ _ => pts_nil) (fun _ _ _ _ _ => pe_op op_mul (pv 1) (pv 2))) pa_nil))), ?_⟩
  walk_at "rd"
  obtain ⟨pu, rfl, eu⟩ := hu
  refine lc_relT (S := fun _ v k => v = V.int k) (R := fun _ v k => v = V.int k) (g := fun x => c * x) (rs := r) (p := pu) (xs := r.map V.int) (stable_eq _) (stable_eq _) rfl eu (RelA.of_map _) (by omega) (fun x => wipeJ _ _ _) (fun x d H1 hd s1 rx Z hZ => ?_) fun L ys H1 s1 nL eL ry => ?_
  · subst rx
    exact ⟨.int c, rfl, .int d, rfl, _, _, rfl, rfl, .inl ⟨by omega, by omega⟩, hZ _ _ (Same.refl _) rfl⟩
  · have ey := RelA.eq_map ry
    refine ⟨L, _, rfl, by rw [eL, ey], fun z H2 s2 r2 => q z _ H2 (s1.trans s2) r2 (okR_trim _) ?_ (sb_trim fun d hd => ?_) fun k => by rw [g_trim]; exact g_map c r k⟩
    · refine Nat.le_trans (trimBy_len _ _) ?_
      rw [List.length_map]
      exact Nat.le_refl _
    · obtain ⟨x, hx, rfl⟩ := List.mem_map.mp hd
      rw [Int.natAbs_mul]
      exact Nat.mul_le_mul_left _ (br x hx)
theorem drop_rw (l : List (List Int)) (i : Nat) : rw' (l.drop 1) i = rw' l (i + 1) := by
  unfold rw'
  rw [List.getD_eq_getElem?_getD, List.getD_eq_getElem?_getD, List.getElem?_drop, Nat.add_comm]
theorem roa_drop {H : Hp} {xs : List V} {rs : List (List Int)} (h : RoA H xs rs) : RoA H (xs.drop 1) (rs.drop 1) := ⟨by rw [List.length_drop, List.length_drop, h.1], fun i v e => by
  rw [List.getElem?_drop] at e ⊢
  exact h.2 _ v e⟩
end
end K25

set_option Elab.async false
set_option linter.all false
set_option maxRecDepth 100000
set_option maxHeartbeats 8000000
local macro_rules | `(tactic| walk_at "rd") => `(tactic| dsimp only [Evl.tCut, L2.tSeq, L2.tNext, L2.tRet, L2.tRetN, L2.tAsg, L2.gName, L2.tIfS, L2.tDrop, L2.tCons, L2.tNil, L2.tC, L2.tVar, L2.tCB, L2.tAndV, L2.tOrV, L2.tNotV, L2.tB, L2.tTest, L2.tOp, L2.tUn, L2.tNot, L2.tAnd, L2.tOr, L2.tIf, L2.tCall, L2.tTup, L2.tLst, L2.tNotT, L2.tYes, L2.gTup, L2.gCons, L2.gNil, L2.gSub, L2.tBM0, L2.tBM, L2.tWhile, L2.tFor, L2.iRng1, L2.iRng2, L2.tAugS, Tw.iEnumT, L2.tCKw, L2.tAug, L2.ipI, RT.iRevA, L2.iRevR, L2.tPar, L2.tPar3, L2.tSl, L2.tNoPart, L2.tPart, Tw.tRevT, L2.rAdd, L2.rSub, L2.tBits])
namespace K25
open PySem PySem.Spec PyProof.Rows L2 Tw
/-! a full rest, a head of one's own -/
def spFRest : Sp := fun vs H Q _ => ∃ (u v : V) (row bb : List Int) (A : Nat), vs = [u, v] ∧ Ro H u row ∧ Ro H v bb ∧ 1 ≤ bb.length ∧ bb.length ≤ row.length ∧ row.length ≤ 100 ∧ WdA A row ∧ WdA A bb ∧ A + (row.length - bb.length + 1) * (A + 1) + A ≤ 900000 ∧ ∀ z H', Same H H' → Ro H' z (fr row bb) → Q z H'
def spOwnH : Sp := fun vs H Q _ => ∃ (h s : Int) (n B : Nat), vs = [.int h, .int s, .int (n : Int)] ∧ Wd B h ∧ s ≠ 0 ∧ n ≤ 1000 ∧ (n + 2) * B + 10 ≤ 999000 ∧ ∀ H', Same H H' → Q (.int (oh h s n)) H'
theorem for_down {n : Nat} {B : (L2.St → Hp → Prop) → V → L2.St → Hp → Prop} {nx : L2.St → Hp → Prop} {σ : L2.St} {H : Hp} (Pv : Nat → L2.St → Hp → Prop) (h0 : Pv n σ H)
    (hs : ∀ k σ H, k < n → Pv (k + 1) σ H → B (Pv k) (.int (k : Int)) σ H) (hd : ∀ σ H, Pv 0 σ H → nx σ H) :
    ∃ W : Nat → Nat → L2.St → Hp → Prop, (∃ m, W 0 m σ H) ∧ ∀ i m σ H, W i m σ H →
      ((Itc ((0 : Int) + ((((n : Int) - 0).toNat : Nat) : Int) - 1) (-1) ((n : Int) - 0).toNat).stop i H ∧ nx σ H) ∨ ((Itc ((0 : Int) + ((((n : Int) - 0).toNat : Nat) : Int) - 1) (-1) ((n : Int) - 0).toNat).go i H ∧ ∃ N : L2.St → Hp → Prop, (∀ σ' H', N σ' H' → ∃ m', m' < m ∧ W (i + 1) m' σ' H') ∧ ∀ x H', (Itc ((0 : Int) + ((((n : Int) - 0).toNat : Nat) : Int) - 1) (-1) ((n : Int) - 0).toNat).yld i H x H' → B N x σ H') := by
  have e : ((n : Int) - 0).toNat = n := by omega
  rw [e]
  refine ⟨fun i m σ H => m = n - i ∧ i ≤ n ∧ Pv (n - i) σ H, ⟨n, by simp, Nat.zero_le _, h0⟩, ?_⟩
  rintro i m σ H ⟨rfl, hi, p⟩
  by_cases hlt : i < n
  · refine .inr ⟨hlt, Pv (n - (i + 1)), fun σ' H' p' => ⟨n - (i + 1), by omega, rfl, hlt, p'⟩, fun x H' y => ?_⟩
    obtain ⟨e, y⟩ := y
    subst e y
    rw [show (0 : Int) + (n : Int) - 1 + ((i : Nat) : Int) * (-1) = ((n - (i + 1) : Nat) : Int) by omega]
    rw [show n - i = n - (i + 1) + 1 by omega] at p
    exact hs _ σ _ (by omega) p
  · have e : i = n := by omega
    subst e
    rw [Nat.sub_self] at p
    exact .inl ⟨Nat.le_refl _, hd σ H p⟩
def rGetL (K : PySem.W.Frag) : V → V → Hp → VK → Prop := fun o i H Q => ∃ (p : Addr) (xs : List V) (j : Nat) (x : V), o = .ref p ∧ i = .int (j : Int) ∧ SqL K H p xs ∧ xs[j]? = some x ∧ Q x H
section
variable {X : Cx}
theorem get_l : PGet X (rGetL X.K) := by
  intro pins s σ H o i ov iv Q I ro ri h
  obtain ⟨p, xs, j, x, rfl, rfl, hq, hx, q⟩ := h
  cases ro
  obtain ⟨t, rfl⟩ := ri
  obtain ⟨its, r, pl, hz⟩ := I.list hq
  obtain ⟨w, ew, rw'⟩ := r.get hx
  have hl := r.length
  have hj : j < its.length := (List.getElem?_eq_some_iff.mp ew).1
  have hn := line63
  exact wpAny_getItem_list (x := w) pl.isList (by omega) (by omega) (by rw [Int.toNat_natCast]; simpa using ew) ⟨x, H, I, rw', q⟩
end
section
variable {P : Program} {w : World} {K : PySem.W.Frag} {mg : Str → Option Value} {base : Heap}
theorem at_last {bb : List Int} (h : 1 ≤ bb.length) : atI (bb.map V.int) (-1) = some (.int (hd bb)) := by
  have e : bb[bb.length - 1]? = some (hd bb) := by rw [List.getElem?_eq_getElem (by omega)]; unfold hd; rw [g_some (by omega)]
  have e1 : ixN bb.length (-1) = some (bb.length - 1) := by
    unfold ixN
    rw [if_neg (by decide), if_pos (by omega)]
    congr 1
    omega
  unfold atI
  rw [List.length_map, e1]
  show (bb.map V.int)[bb.length - 1]? = _
  rw [List.getElem?_map, e]
  rfl
theorem g_take (bs : List Int) (j m : Nat) : g (bs.take j) m = if m < j then g bs m else 0 := by
  unfold g
  rw [List.getD_eq_getElem?_getD, List.getD_eq_getElem?_getD, List.getElem?_take]
  split <;> rfl
theorem subAt_step {k j : Nat} {t : Int} {bs r : List Int} (hj : j < bs.length) (l : k + bs.length ≤ r.length) : (subAt k t (bs.take j) r).set (k + j) (g (subAt k t (bs.take j) r) (k + j) - t * g bs j) = subAt k t (bs.take (j + 1)) r := by
  have l1 : k + (bs.take j).length ≤ r.length := by rw [List.length_take]; omega
  have l2 : k + (bs.take (j + 1)).length ≤ r.length := by rw [List.length_take]; omega
  refine row_eq (by rw [List.length_set, subAt_len _ _ _ _ l1, subAt_len _ _ _ _ l2]) fun i => ?_
  rw [g_set (by rw [subAt_len _ _ _ _ l1]; omega), subAt_g _ _ _ _ l1, subAt_g _ _ _ _ l1, subAt_g _ _ _ _ l2, g_take, g_take, g_take]
  by_cases c : i = k + j
  · subst c
    rw [if_pos rfl, if_pos (show k ≤ k + j by omega), if_pos (show k ≤ k + j by omega), if_neg (show ¬ k + j - k < j by omega), if_pos (show k + j - k < j + 1 by omega), show k + j - k = j by omega]
    omega
  · rw [if_neg c]
    by_cases d : k ≤ i
    · rw [if_pos d, if_pos d]
      by_cases e : i - k < j
      · rw [if_pos e, if_pos (by omega)]
      · rw [if_neg e, if_neg (by omega)]
    · rw [if_neg d, if_neg d]
theorem subAt_zero {k : Nat} {bs r : List Int} (l : k + bs.length ≤ r.length) : subAt k 0 bs r = r :=
  row_eq (subAt_len _ _ _ _ l) fun i => by rw [subAt_g _ _ _ _ l]; split <;> simp
theorem subAt_nil {k : Nat} {t : Int} {r : List Int} (l : k ≤ r.length) : subAt k t [] r = r :=
  row_eq (subAt_len _ _ _ _ (by simpa using l)) fun i => by rw [subAt_g _ _ _ _ (by simpa using l)]; split <;> simp
theorem ixN_nat {n j : Nat} (h : j < n) : ixN n (j : Int) = some j := by
  unfold ixN
  rw [if_pos (by omega), if_pos (by omega)]
  rfl
theorem at_g {bb : List Int} {j : Nat} (h : j < bb.length) : (bb.map V.int)[j]? = some (.int (g bb j)) := by
  rw [List.getElem?_map, List.getElem?_eq_getElem h, g_some h]; rfl
theorem scOwnH : FnScope ["head", "scale", "steps", "found", "k"] ["head", "scale", "steps"] (defScope sOwnH) := ⟨rfl, rfl, rfl, by decide +kernel, rfl, by decide +kernel, by decide +kernel⟩
theorem ok_ownH (D : Def K mg "own_head" sOwnH ["head", "scale", "steps"]) (nb : Nb mg) (hN : base.NoSeer) (ht : P.given.tree = none) : Cal P w K mg base "own_head" 33 ["head", "scale", "steps"] spOwnH := by
  refine D.ok scOwnH (fun vs H Q E h => ?_) (fun f cdv A out s H vs Q E hr h => ?_)
  · obtain ⟨h, s, n, B, rfl, _⟩ := h; rfl
  obtain ⟨h, sc, n, B, rfl, hB, hs, n1, nB, q⟩ := h
  refine ⟨_, pss_cons (ps_set (i := 3) scOwnH.nd rfl (Or.inl rfl) (pv 0))
    (pss_cons (ps_for PassesOwn.never rfl (pi_range1 (by rfl) nb.rng (pa_cons (pv 2) pa_nil)) (pg_name (i := 4) scOwnH.nd rfl (Or.inl rfl))
      (pss_cons (ps_set (i := 3) scOwnH.nd rfl (Or.inl rfl) (pe_op (op_fdivP (se_mk hN ht rfl ⟨rfl, rfl, rfl, rfl⟩) hr (by omega)) (pe_op op_mulW (pv 0) (pv 3)) (pv 1)))
    (pss_one (ps_if (pt_cmpR op_eq (pe_op op_mod (pv 4) pe_int) pe_int (nomark _))
      (pss_one (ps_set (i := 3) scOwnH.nd rfl (Or.inl rfl) (pe_un un_neg (pv 3))))
      (pss_nil)))))
    (pss_one (ps_ret (pv 3)))), ?_⟩
  walk_at "rd"
  refine ⟨_, rfl, _, rfl, n, rfl, by omega, by omega, for_rng (lo := 0) (n := n) (fun i σ H' => ∃ x4, σ = [some (.int h), some (.int sc), some (.int (n : Int)), some (.int (oh h sc i)), x4] ∧ H' = H) ⟨none, rfl, rfl⟩ ?_ ?_⟩
  · rintro i σ H1 hi ⟨x4, rfl, rfl⟩
    rw [show (0 : Int) + (i : Int) = (i : Int) by omega]
    have mi := Nat.mul_le_mul_right B (show i + 2 ≤ n + 2 by omega)
    have ei : (i + 2) * B = B + (i + 1) * B := by rw [Nat.add_mul, Nat.add_mul]; omega
    refine ⟨_, rfl, _, rfl, _, _, rfl, rfl, hB.cm (oh_wd hB hs i) (by omega), _, rfl, _, _, rfl, rfl, hs, _, rfl, _, _, rfl, rfl, (by show (0 : Int) < 2; decide), rfl, _, rfl, ite2 (fun c => ?_) (fun c => ?_)⟩
    · have c := of_decide_eq_true c
      injection c with c
      have c2 : i % 2 = 0 := by omega
      refine ⟨_, rfl, _, rfl, some (.int (i : Int)), ?_, rfl⟩
      rw [oh, if_pos c2]
      rfl
    · have c2 : ¬ i % 2 = 0 := fun z => c (decide_eq_true (by show V.int ((i : Int) % 2) = V.int 0; rw [show (i : Int) % 2 = 0 by omega]))
      refine ⟨some (.int (i : Int)), ?_, rfl⟩
      rw [oh, if_neg c2]
      rfl
  · rintro σ H1 ⟨x4, rfl, rfl⟩
    exact ⟨_, rfl, q _ (Same.refl _)⟩
theorem scFRest : FnScope ["row", "by", "rest", "head", "size", "at", "top", "number", "k"] ["row", "by"] (defScope sFRest) := ⟨rfl, rfl, rfl, by decide +kernel, rfl, by decide +kernel, by decide +kernel⟩
theorem ok_fRest (D : Def K mg "full_rest" sFRest ["row", "by"]) (nb : Nb mg) (ct : Cal P w K mg base "trimmed" 1 ["numbers"] spTrimI) : Cal P w K mg base "full_rest" 2 ["row", "by"] spFRest := by
  refine D.ok scFRest (fun vs H Q E h => ?_) (fun f cdv A out s H vs Q E hr h => ?_)
  · obtain ⟨u, v, row, bb, A, rfl, _⟩ := h; rfl
  obtain ⟨u, v, row, bb, W, rfl, ⟨pu, rfl, eu⟩, ⟨pw, rfl, ew⟩, lb, lbr, lr, wr, wb, hW, q⟩ := h
  refine ⟨_, Evl.pss_cut (ps_set (i := 2) scFRest.nd rfl (Or.inl rfl) (pe_callTy (T := "list") call_list_of (by rfl) nb.lst (by decide +kernel) (pa_cons (pv 0) pa_nil)))
    (Evl.pss_cut (ps_set (i := 3) scFRest.nd rfl (Or.inr rfl) (pe_ix (r := rIxT K) ix_tup (pv 1) (pe_un un_neg pe_int) (fun _ _ => rfl)))
    (Evl.pss_cut (ps_set (i := 4) scFRest.nd rfl (Or.inl rfl) (pe_callB (id := "len") (r := rLn K) call_len_seq (by rfl) nb.len PySem.boot_len (pa_cons (pv 1) pa_nil)))
    (Evl.pss_cut (ps_for PassesOwn.never rfl (pi_revR (by rfl) nb.rev (prg_1 (by rfl) nb.rng (pe_op op_add (pe_op op_sub (pe_callB (id := "len") (r := rLn K) call_len_seq (by rfl) nb.len PySem.boot_len (pa_cons (pv 0) pa_nil)) (pv 4)) pe_int))) (pg_name (i := 5) scFRest.nd rfl (Or.inl rfl))
      (Evl.pss_cut (ps_set (i := 6) scFRest.nd rfl (Or.inl rfl) (pe_bm0 PySem.F.plainAttrs_list PySem.F.slot_list_pop PySem.F.type_list_pop mt_pop (pv 2)))
    (Evl.pss_cut (ps_setLc (i := 2) (own := [("number", 7)]) (g := gName 7) (tt := tYes) rfl scFRest.nd rfl rfl (by rfl) (pi_list (pv 2)) (blkOk_by (N := ["row", "by", "rest", "head", "size", "at", "top", "number", "k"]) (sc := defScope sFRest) (by decide +kernel)) (fun _ _ _ _ _ => pg_name (i := 7) scFRest.nd rfl (Or.inl rfl)) (fun _ _ _ _ _ => pts_nil) (fun _ _ _ _ _ => (pe_op op_mulW (pv 3) (pv 7))))
    (pss_one (ps_if (pt_truth (pv 6) (by intro _; rfl))
      (pss_one (ps_for PassesOwn.never rfl (pi_range1 (by rfl) nb.rng (pa_cons (pe_op op_sub (pv 4) pe_int) pa_nil)) (pg_name (i := 8) scFRest.nd rfl (Or.inl rfl))
      (pss_one (ps_augS (pv 2) (pe_op op_add (pv 5) (pv 8)) get_l (pe_op op_mulW (pv 6) (pe_ix (r := rIxT K) ix_tup (pv 1) (pv 8) (fun _ _ => rfl))) ip_sub set_list))))
      (pss_nil))))))
    (pss_one (ps_ret (pe_cal ct hr (by omega) (by rfl) (pa_cons (pv 2) pa_nil))))))), ?_⟩
  walk_at "rd"
  refine ⟨fun σ H' => ∃ L, σ = [some (.ref pu), some (.ref pw), some (.ref L), none, none, none, none, none, none] ∧ Same H H' ∧ H L = none ∧ H' L = some (.lst (row.map V.int)), ?_, ?_⟩
  · refine ⟨_, rfl, pu, _, rfl, .inr (SqT.of eu), fun L nL => ⟨L, rfl, same_new nL, nL, upd_same⟩⟩
  rintro σ1 H1 ⟨L, rfl, s1, nL, eL⟩
  refine ⟨fun σ H' => σ = [some (.ref pu), some (.ref pw), some (.ref L), some (.int (hd bb)), none, none, none, none, none] ∧ H' = H1, ?_, ?_⟩
  · exact ⟨_, rfl, _, rfl, pw, _, _, _, rfl, rfl, SqT.of (s1 _ _ ew), at_last lb, rfl, rfl⟩
  rintro σ2 H2 ⟨rfl, rfl⟩
  refine ⟨fun σ H' => σ = [some (.ref pu), some (.ref pw), some (.ref L), some (.int (hd bb)), some (.int (bb.length : Int)), none, none, none, none] ∧ H' = H2, ?_, ?_⟩
  · refine ⟨_, rfl, pw, _, rfl, .inr (SqT.of (s1 _ _ ew)), ?_, rfl⟩
    rw [List.length_map]
    rfl
  rintro σ3 H3 ⟨rfl, rfl⟩
  have eN : (row.length : Int) - (bb.length : Int) + 1 = ((row.length - bb.length + 1 : Nat) : Int) := by omega
  refine ⟨fun σ H' => ∃ L r x5 x6 x7 x8, σ = [some (.ref pu), some (.ref pw), some (.ref L), some (.int (hd bb)), some (.int (bb.length : Int)), x5, x6, x7, x8] ∧ Same H H' ∧ H L = none ∧ H' L = some (.lst (r.map V.int)) ∧ frGo bb (row.length - bb.length + 1) row = r, ?_, ?_⟩
  · refine ⟨_, rfl, pu, _, rfl, .inr (SqT.of (s1 _ _ eu)), _, rfl, _, _, rfl, rfl, _, _, rfl, rfl, ?_⟩
    rw [List.length_map]
    dsimp only
    rw [eN]
    refine ⟨_, rfl, by omega, by omega, by omega, by omega, for_down (n := row.length - bb.length + 1) (fun k σ H' => ∃ L r x5 x6 x7 x8, σ = [some (.ref pu), some (.ref pw), some (.ref L), some (.int (hd bb)), some (.int (bb.length : Int)), x5, x6, x7, x8] ∧ Same H H' ∧ H L = none ∧ H' L = some (.lst (r.map V.int)) ∧ frGo bb (row.length - bb.length + 1) row = frGo bb k r ∧ r.length + 1 = bb.length + k ∧ k ≤ row.length - bb.length + 1 ∧ WdA (W + (row.length - bb.length + 1 - k) * (W + 1)) r) ?_ ?_ ?_⟩
    · exact ⟨L, row, _, _, _, _, rfl, s1, nL, eL, rfl, by omega, Nat.le_refl _, wr.up (by omega)⟩
    · rintro k σ H1 hk ⟨L, r, x5, x6, x7, x8, rfl, s1, nL, eL, ef, lr', hk', wr'⟩
      have n1 : H1 L ≠ none := by rw [eL]; simp
      have hm := Nat.mul_le_mul_right (W + 1) (show row.length - bb.length + 1 - (k + 1) ≤ row.length - bb.length + 1 by omega)
      have hk1 : row.length - bb.length + 1 - k = row.length - bb.length + 1 - (k + 1) + 1 := by omega
      have hA : W + (row.length - bb.length + 1 - k) * (W + 1) = W + (row.length - bb.length + 1 - (k + 1)) * (W + 1) + W + 1 := by rw [hk1, Nat.add_mul]; omega
      rw [hA]
      have hAW : W + (row.length - bb.length + 1 - (k + 1)) * (W + 1) + W ≤ 900000 := by omega
      generalize W + (row.length - bb.length + 1 - (k + 1)) * (W + 1) = A at wr' hAW ⊢
      refine ⟨fun σ H' => σ = [some (.ref pu), some (.ref pw), some (.ref L), some (.int (hd bb)), some (.int (bb.length : Int)), some (.int (k : Int)), some (.int (hd r)), x7, x8] ∧ Same H H' ∧ H' L = some (.lst (r.dropLast.map V.int)), ?_, ?_⟩
      · refine ⟨_, rfl, .inl ⟨rfl, _, SqL.of eL⟩, L, _, .int (hd r), rfl, rfl, eL, ?_, rfl, fun b o e => ?_, ?_⟩
        · rw [List.length_map, at_g (by omega)]; rfl
        · rw [upd_ne (ne_of_none e nL)]; exact s1 _ _ e
        · rw [upd_same, List.map_dropLast]
      rintro σ2 H2 ⟨rfl, s2, eL2⟩
      refine ⟨fun σ H' => ∃ L', σ = [some (.ref pu), some (.ref pw), some (.ref L'), some (.int (hd bb)), some (.int (bb.length : Int)), some (.int (k : Int)), some (.int (hd r)), x7, x8] ∧ Same H H' ∧ H L' = none ∧ H' L' = some (.lst ((r.dropLast.map fun c => hd bb * c).map V.int)), ?_, ?_⟩
      · refine lc_relL (S := fun _ v k => v = V.int k) (R := fun _ v k => v = V.int k) (g := fun x => hd bb * x) (rs := r.dropLast) (p := L) (xs := r.dropLast.map V.int) (stable_eq _) (stable_eq _) rfl eL2 (RelA.of_map _) (by rw [List.length_dropLast]; omega) (fun x => wipeJ _ _ _) (fun x d H1 hd' s1 rx Z hZ => ?_) fun D ys H1 s1 nD eD ry => ?_
        · subst rx
          exact ⟨_, rfl, _, rfl, _, _, rfl, rfl, wb.hd.cm (wr' d (List.dropLast_subset _ hd')) (by omega), hZ _ _ (Same.refl _) rfl⟩
        · have ey := RelA.eq_map ry
          exact ⟨D, rfl, s2.trans s1, s2.free nD, by rw [eD, ey]⟩
      rintro σ3 H3 ⟨L', rfl, s3, nL', eL'⟩
      have wr1 : WdA (W + A) (r.dropLast.map fun c => hd bb * c) := WdA.scl wb.hd fun c hc => wr' c (List.dropLast_subset _ hc)
      have lr1 : (r.dropLast.map fun c => hd bb * c).length + 1 = r.length := by rw [List.length_map, List.length_dropLast]; omega
      have wr2 := subAt_wd (n := k) (bs := bb.dropLast) (wr'.hd) (fun c hc => wb c (List.dropLast_subset _ hc)) (wr1.up (by omega)) (by rw [List.length_dropLast]; omega)
      have ef2 : frGo bb (row.length - bb.length + 1) row = frGo bb k (subAt k (hd r) bb.dropLast (r.dropLast.map fun c => hd bb * c)) := by rw [ef, frGo]
      have lr2 := subAt_len k (hd r) bb.dropLast (r.dropLast.map fun c => hd bb * c) (by rw [List.length_dropLast]; omega)
      generalize (r.dropLast.map fun c => hd bb * c) = r1 at *
      have wt := wr'.hd
      generalize hd r = tt at *
      refine ⟨_, rfl, _, rfl, ?_⟩
      by_cases c : tt = 0
      · subst c
        rw [subAt_zero (by rw [List.length_dropLast]; omega)] at wr2 ef2
        exact iteF ⟨L', r1, _, _, _, _, rfl, s3, nL', eL', ef2, by omega, by omega, wr2⟩
      rw [show (tt != 0) = true from bne_iff_ne.mpr c]
      refine iteT ⟨_, rfl, _, _, rfl, rfl, _, rfl, by omega, by omega, ?_⟩
      have eJ : ((bb.length : Int) - 1).toNat = bb.length - 1 := by omega
      rw [eJ]
      refine for_rng (lo := 0) (n := bb.length - 1) (fun j σ H' => ∃ x8, σ = [some (.ref pu), some (.ref pw), some (.ref L'), some (.int (hd bb)), some (.int (bb.length : Int)), some (.int (k : Int)), some (.int tt), x7, x8] ∧ Same H H' ∧ H' L' = some (.lst ((subAt k tt (bb.dropLast.take j) r1).map V.int))) ⟨_, rfl, s3, by rw [List.take_zero, subAt_nil (by omega)]; exact eL'⟩ ?_ ?_
      · rintro j σ H1 hj ⟨x8, rfl, s4, e4⟩
        rw [show (0 : Int) + (j : Int) = (j : Int) by omega]
        have lt : (subAt k tt (bb.dropLast.take j) r1).length = r1.length := subAt_len _ _ _ _ (by rw [List.length_take, List.length_dropLast]; omega)
        have gd : g bb.dropLast j = g bb j := by rw [List.dropLast_eq_take, g_take, if_pos (by omega)]
        refine ⟨_, rfl, _, rfl, _, rfl, _, _, rfl, rfl, L', _, k + j, _, rfl, ?_, SqL.of e4, at_g (by rw [lt]; omega), _, rfl, _, rfl, _, rfl, pw, _, j, _, rfl, rfl, SqT.of (s4 _ _ ew), atI_nat (at_g (by omega)), _, _, rfl, rfl, wt.cm (wb.g j) (by omega), _, _, rfl, rfl, L', _, _, k + j, rfl, rfl, e4, ?_, _, rfl, ?_, ?_⟩
        · show V.int ((k : Int) + (j : Int)) = _; rw [show (k : Int) + (j : Int) = ((k + j : Nat) : Int) by omega]
        · rw [show (k : Int) + (j : Int) = ((k + j : Nat) : Int) by omega, List.length_map, lt]
          exact ixN_nat (by omega)
        · intro b o e; rw [upd_ne (ne_of_none e nL')]; exact s4 _ _ e
        · rw [upd_same, ← subAt_step (by rw [List.length_dropLast]; omega) (by rw [List.length_dropLast]; omega), gd, List.map_set]
      · rintro σ H1 ⟨x8, rfl, s4, e4⟩
        rw [List.take_of_length_le (by rw [List.length_dropLast]; omega)] at e4
        exact ⟨L', _, _, _, _, _, rfl, s4, nL', e4, ef2, by omega, by omega, wr2⟩
    · rintro σ H1 ⟨L, r, x5, x6, x7, x8, rfl, s1, nL, eL, ef, lr', _, wr'⟩
      exact ⟨L, r, x5, x6, x7, x8, rfl, s1, nL, eL, ef⟩
  rintro σ4 H4 ⟨L, r, x5, x6, x7, x8, rfl, s1, nL, eL, ef⟩
  refine ⟨_, rfl, L, r, rfl, eL, fun v H5 s5 rv => q v H5 (s1.trans s5) ?_⟩
  unfold fr
  rw [ef]
  exact rv
end
end K25

set_option Elab.async false
set_option linter.all false
set_option maxRecDepth 100000
set_option maxHeartbeats 8000000
local macro_rules | `(tactic| walk_at "rd") => `(tactic| dsimp only [Evl.tCut, L2.tSeq, L2.tNext, L2.tRet, L2.tRetN, L2.tAsg, L2.gName, L2.tIfS, L2.tDrop, L2.tCons, L2.tNil, L2.tC, L2.tVar, L2.tCB, L2.tAndV, L2.tOrV, L2.tNotV, L2.tB, L2.tTest, L2.tOp, L2.tUn, L2.tNot, L2.tAnd, L2.tOr, L2.tIf, L2.tCall, L2.tTup, L2.tLst, L2.tNotT, L2.tYes, L2.gTup, L2.gCons, L2.gNil, L2.gSub, L2.tBM0, L2.tBM, L2.tWhile, L2.tFor, L2.iRng1, L2.iRng2, L2.tAugS, Tw.iEnumT, L2.tCKw, L2.tAug, L2.ipI, RT.iRevA, L2.iRevR, L2.tPar, L2.tPar3, L2.tSl, L2.tNoPart, L2.tPart, Tw.tRevT, L2.rAdd, L2.rSub, L2.tBits])
namespace K25
open PySem PySem.Spec PyProof.Rows L2 Tw
/-! the chain of rests -/
def spSubres : Sp := fun vs H Q _ => ∃ (u v : V) (one other : List Int) (W : Nat) (fd : List (List Int)), vs = [u, v] ∧ Ro H u one ∧ Ro H v other ∧ 2 ≤ one.length ∧ one.length ≤ 6 ∧ other.length + 1 ≤ one.length ∧ WdA W one ∧ WdA W other ∧ 10 ≤ W ∧ W * 5 ^ (one.length - 2) ≤ 490000 ∧
  srGo 5 (one.length - 1) ((List.replicate (one.length - 1) [] ++ [one]).set (one.length - 2) other) one other 1 1 = some fd ∧ ∀ z H', Same H H' → Po H' z fd → Q z H'
theorem pw5b : ∀ {a : Nat}, 1 ≤ a → a + 1 ≤ 2 * 5 ^ (a - 1)
  | 1, _ => by decide
  | a + 2, _ => by
    have := pw5b (a := a + 1) (by omega)
    rw [show a + 1 - 1 = a by omega] at this
    rw [show a + 2 - 1 = a + 1 by omega, Nat.pow_succ]
    omega
theorem pw5c : ∀ {d : Nat}, 1 ≤ d → 2 * d + 3 ≤ 5 ^ d
  | 1, _ => by decide
  | d + 2, _ => by
    have := pw5c (d := d + 1) (by omega)
    rw [Nat.pow_succ]
    omega
theorem kb1 {d K : Nat} (hd : 1 ≤ d) (h5 : d ≤ 5) (hK : 10 ≤ K) : (2 * d + 2) * K + (d + 1) ≤ 5 ^ d * K := by
  have h := Nat.mul_le_mul_right K (pw5c hd)
  have e : (2 * d + 3) * K = (2 * d + 2) * K + K := by rw [show 2 * d + 3 = (2 * d + 2) + 1 by omega, Nat.add_mul (2 * d + 2)]; omega
  omega
def SubInv (H1 : Hp) (pu pw L : Addr) (fd : List (List Int)) (m : Nat) (σ : L2.St) (H' : Hp) : Prop := ∃ (xs : List V) (at_ : Nat) (p4 p5 : Addr) (upper lower : List Int) (scale lead : Int) (Kb : Nat) (fdl : List (List Int)) (x8 x9 x10 x11 x12 x13 : Option V), σ = [some (.ref pu), some (.ref pw), some (.int (at_ : Int)), some (.ref L), some (.ref p4), some (.ref p5), some (.int scale), some (.int lead), x8, x9, x10, x11, x12, x13] ∧ Same H1 H' ∧ H' L = some (.lst xs) ∧ RoA H' xs fdl ∧ H' p4 = some (.tup (upper.map V.int)) ∧ H' p5 = some (.tup (lower.map V.int)) ∧ srGo m at_ fdl upper lower scale lead = some fd ∧ scale ≠ 0 ∧ lead ≠ 0 ∧ upper.length = at_ + 1 ∧ 1 ≤ at_ ∧ at_ ≤ 5 ∧ fdl.length ≤ 6 ∧ at_ < fdl.length ∧ WdA Kb upper ∧ WdA Kb lower ∧ Wd Kb scale ∧ Wd Kb lead ∧ 10 ≤ Kb ∧ Kb * 5 ^ (at_ - 1) ≤ 490000
section
variable {P : Program} {w : World} {K : PySem.W.Frag} {mg : Str → Option Value} {base : Heap}
theorem scSubres : FnScope ["one", "other", "at", "found", "upper", "lower", "scale", "lead", "low", "head", "own", "number", "over", "rest"] ["one", "other"] (defScope sSubres) := ⟨rfl, rfl, rfl, by decide +kernel, rfl, by decide +kernel, by decide +kernel⟩
theorem ok_subres (D : Def K mg "subresultants" sSubres ["one", "other"]) (nb : Nb mg) (hN : base.NoSeer) (ht : P.given.tree = none) (co : Cal P w K mg base "own_head" 33 ["head", "scale", "steps"] spOwnH) (cp : Cal P w K mg base "power" 1 ["base", "many"] spPower)
    (cf : Cal P w K mg base "full_rest" 2 ["row", "by"] spFRest) : Cal P w K mg base "subresultants" 34 ["one", "other"] spSubres := by
  refine D.ok scSubres (fun vs H Q E h => ?_) (fun f cdv A out s H vs Q E hr h => ?_)
  · obtain ⟨u, v, one, other, W, fd, rfl, _⟩ := h; rfl
  obtain ⟨u, v, one, other, W, fd, rfl, ⟨pu, rfl, eu⟩, ⟨pw, rfl, ew⟩, l2, l6, lo, w1, w2, W10, hW, hgo, q⟩ := h
  refine ⟨_, Evl.pss_cut (ps_set (i := 2) scSubres.nd rfl (Or.inl rfl) (pe_op op_sub (pe_callB (id := "len") (r := rLn K) call_len_seq (by rfl) nb.len PySem.boot_len (pa_cons (pv 0) pa_nil)) pe_int))
    (Evl.pss_cut (ps_set (i := 3) scSubres.nd rfl (Or.inl rfl) (pe_op op_cat (pe_op op_rep (pe_lst (pa_cons (pe_tup pa_nil) pa_nil)) (pv 2)) (pe_lst (pa_cons (pv 0) pa_nil))))
    (Evl.pss_cut (ps_asg (pv 1) (pg_sub (pv 3) (pe_op op_sub (pv 2) pe_int) set_list))
    (Evl.pss_cut (ps_par (i := 4) (j := 5) rfl scSubres.nd rfl rfl (by decide) rfl rfl (pa_cons (pv 0) (pa_cons (pv 1) pa_nil)) rfl)
    (Evl.pss_cut (ps_asg2 pe_int (pg_name (i := 6) scSubres.nd rfl (Or.inl rfl)) (pg_name (i := 7) scSubres.nd rfl (Or.inl rfl)))
    (Evl.pss_cut (ps_while PassesOwn.never (pt_truth (pv 5) (by intro _; rfl))
      (Evl.pss_cut (ps_set (i := 8) scSubres.nd rfl (Or.inl rfl) (pe_op op_sub (pe_callB (id := "len") (r := rLn K) call_len_seq (by rfl) nb.len PySem.boot_len (pa_cons (pv 5) pa_nil)) pe_int))
    (Evl.pss_cut (ps_set (i := 9) scSubres.nd rfl (Or.inr rfl) (pe_ix (r := rIxT K) ix_tup (pv 5) (pe_un un_neg pe_int) (fun _ _ => rfl)))
    (Evl.pss_cut (ps_set (i := 10) scSubres.nd rfl (Or.inr rfl) (pe_cal co hr (by omega) (by rfl) (pa_cons (pv 9) (pa_cons (pv 6) (pa_cons (pe_op op_sub (pe_op op_sub (pv 2) pe_int) (pv 8)) pa_nil)))))
    (Evl.pss_cut (ps_if (pt_cmpR op_lt (pv 8) (pe_op op_sub (pv 2) pe_int) (nomark _))
      (pss_one (ps_asg (pe_callTy (T := "tuple") call_tuple_of (by rfl) nb.tup (by decide +kernel) (pa_cons (pe_lc (own := [("number", 11)]) (g := gName 11) (tt := tYes) rfl scSubres.nd (pi_tup (pv 5)) (blkOk_by (N := ["one", "other", "at", "found", "upper", "lower", "scale", "lead", "low", "head", "own", "number", "over", "rest"]) (sc := defScope sSubres) (by decide +kernel)) (fun _ _ _ _ _ => pg_name (i := 11) scSubres.nd rfl (Or.inl rfl)) (fun _ _ _ _ _ => pts_nil) (fun _ _ _ _ _ => (pe_op (op_fdivP (se_mk hN ht rfl ⟨rfl, rfl, rfl, rfl⟩) hr (by omega)) (pe_op op_mulW (pv 10) (pv 11)) (pv 9)))) pa_nil)) (pg_sub (pv 3) (pv 8) set_list)))
      (pss_nil))
    (Evl.pss_cut (ps_if (pt_cmpR op_eq (pv 8) pe_int (nomark _))
      (pss_one (ps_break))
      (pss_nil))
    (Evl.pss_cut (ps_set (i := 12) scSubres.nd rfl (Or.inr rfl) (pe_op op_mulW (pe_op op_mulW (pe_cal cp hr (by omega) (by rfl) (pa_cons (pv 9) (pa_cons (pe_op op_sub (pv 2) (pv 8)) pa_nil))) (pv 6)) (pv 7)))
    (Evl.pss_cut (ps_set (i := 13) scSubres.nd rfl (Or.inl rfl) (pe_callTy (T := "tuple") call_tuple_of (by rfl) nb.tup (by decide +kernel) (pa_cons (pe_lc (own := [("number", 11)]) (g := gName 11) (tt := tYes) rfl scSubres.nd (pi_tup (pe_cal cf hr (by omega) (by rfl) (pa_cons (pv 4) (pa_cons (pv 5) pa_nil)))) (blkOk_by (N := ["one", "other", "at", "found", "upper", "lower", "scale", "lead", "low", "head", "own", "number", "over", "rest"]) (sc := defScope sSubres) (by decide +kernel)) (fun _ _ _ _ _ => pg_name (i := 11) scSubres.nd rfl (Or.inl rfl)) (fun _ _ _ _ _ => pts_nil) (fun _ _ _ _ _ => (pe_op (op_fdivP (se_mk hN ht rfl ⟨rfl, rfl, rfl, rfl⟩) hr (by omega)) (pe_op op_mulW (pe_un un_neg (pv 10)) (pv 11)) (pv 12)))) pa_nil)))
    (Evl.pss_cut (ps_asg (pv 13) (pg_sub (pv 3) (pe_op op_sub (pv 8) pe_int) set_list))
    (Evl.pss_cut (ps_par3 (i := 4) (j := 5) (l := 2) rfl scSubres.nd rfl rfl rfl (by decide) (by decide) (by decide) rfl rfl rfl (pa_cons (pv 5) (pa_cons (pv 13) (pa_cons (pv 8) pa_nil))) rfl)
    (pss_one (ps_par (i := 6) (j := 7) rfl scSubres.nd rfl rfl (by decide) rfl rfl (pa_cons (pv 10) (pa_cons (pv 9) pa_nil)) rfl))))))))))))
    (pss_one (ps_ret (pe_callTy (T := "tuple") call_tuple_of (by rfl) nb.tup (by decide +kernel) (pa_cons (pv 3) pa_nil))))))))), ?_⟩
  walk_at "rd"
  obtain ⟨n, hn⟩ : ∃ n, one.length = n + 1 := ⟨one.length - 1, by omega⟩
  rw [hn] at hgo hW
  rw [show n + 1 - 1 = n by omega, show n + 1 - 2 = n - 1 by omega] at hgo
  rw [show n + 1 - 2 = n - 1 by omega] at hW
  refine ⟨fun σ H' => σ = [some (.ref pu), some (.ref pw), some (.int (n : Int)), none, none, none, none, none, none, none, none, none, none, none] ∧ H' = H, ?_, ?_⟩
  · refine ⟨_, rfl, pu, _, rfl, .inr (SqT.of eu), _, _, rfl, rfl, ?_, rfl⟩
    rw [List.length_map, hn]
    show [_, _, some (V.int (((n + 1 : Nat) : Int) - 1)), _, _, _, _, _, _, _, _, _, _, _] = _
    rw [show (((n + 1 : Nat) : Int) - 1) = (n : Int) by omega]
  rintro σ1 H1 ⟨rfl, rfl⟩
  refine ⟨fun σ H' => ∃ L xs, σ = [some (.ref pu), some (.ref pw), some (.int (n : Int)), some (.ref L), none, none, none, none, none, none, none, none, none, none] ∧ Same H1 H' ∧ H1 L = none ∧ H' L = some (.lst xs) ∧ RoA H' xs (List.replicate n [] ++ [one]), ?_, ?_⟩
  · refine ⟨sz (by simp), fun p np => ⟨sz (by simp), fun L0 n0 => ⟨_, rfl, ?_⟩⟩⟩
    have s1 := (same_new (o := .tup []) np).trans (same_new (o := .lst [.ref p]) n0)
    have ep : upd (upd H1 p (.tup [])) L0 (.lst [.ref p]) p = some (.tup []) := by rw [upd_ne (ne_of_none upd_same n0)]; exact upd_same
    refine ⟨L0, _, _, rfl, rfl, upd_same, by omega, by omega, sz (by show 1 * _ ≤ _; omega), fun L1 n1 => ⟨_, rfl, sz (by simp), fun L2 n2 => ?_⟩⟩
    rw [show ((n : Int)).toNat = n by omega, flat_one] at n2 ⊢
    have s2 := same_new (o := .lst (List.replicate n (V.ref p))) n1
    have e1 : upd (upd (upd H1 p (.tup [])) L0 (.lst [.ref p])) L1 (.lst (List.replicate n (V.ref p))) L1 = some (.lst (List.replicate n (V.ref p))) := upd_same
    have s02 := s1.trans s2
    have ep2 := s2 _ _ ep
    generalize upd (upd (upd H1 p (.tup [])) L0 (.lst [.ref p])) L1 (.lst (List.replicate n (V.ref p))) = H2 at n2 e1 s02 ep2 ⊢
    have s3 := same_new (o := .lst [.ref pu]) n2
    refine ⟨L1, L2, _, _, rfl, rfl, s3 _ _ e1, upd_same, ?_, fun L3 n3 => ⟨L3, _, rfl, s02.trans (s3.trans (same_new n3)), s02.free (s3.free n3), upd_same, ?_⟩⟩
    · have := sz (n := (List.replicate n (V.ref p)).length + [V.ref pu].length) (by rw [List.length_replicate]; show n + 1 ≤ _; omega)
      exact this
    · have st := s3.trans (same_new (o := .lst (List.replicate n (V.ref p) ++ [.ref pu])) n3)
      have rp : Ro (upd (upd H2 L2 (.lst [.ref pu])) L3 (.lst (List.replicate n (V.ref p) ++ [.ref pu]))) (.ref p) [] := ⟨p, rfl, st _ _ ep2⟩
      have ro : Ro (upd (upd H2 L2 (.lst [.ref pu])) L3 (.lst (List.replicate n (V.ref p) ++ [.ref pu]))) (.ref pu) one := ⟨pu, rfl, (s02.trans st) _ _ eu⟩
      refine RoA.snoc ⟨by rw [List.length_replicate, List.length_replicate], fun i v e => ?_⟩ ro
      rw [List.getElem?_replicate] at e ⊢
      split at e
      · injection e with e
        subst e
        rename_i h
        exact ⟨[], by rw [if_pos h], rp⟩
      · cases e
  rintro σ2 H2 ⟨L, xs, rfl, s2, nL, eL, rL⟩
  refine ⟨fun σ H' => ∃ xs, σ = [some (.ref pu), some (.ref pw), some (.int (n : Int)), some (.ref L), none, none, none, none, none, none, none, none, none, none] ∧ Same H1 H' ∧ H' L = some (.lst xs) ∧ RoA H' xs ((List.replicate n [] ++ [one]).set (n - 1) other), ?_, ?_⟩
  · refine ⟨_, rfl, _, rfl, _, rfl, _, _, rfl, rfl, L, _, _, n - 1, rfl, rfl, eL, ?_, _, rfl, fun b o e => ?_, upd_same, ?_⟩
    · rw [show (n : Int) - 1 = ((n - 1 : Nat) : Int) by omega]
      exact ixN_nat (by rw [rL.1, List.length_append, List.length_replicate]; show n - 1 < n + 1; omega)
    · rw [upd_ne (ne_of_none e nL)]; exact s2 _ _ e
    · exact (rL.set (n - 1) ⟨pw, rfl, s2 _ _ ew⟩).kt (kt_upd eL)
  rintro σ3 H3 ⟨xs, rfl, s3, eL, rL⟩
  refine ⟨fun σ H' => σ = [some (.ref pu), some (.ref pw), some (.int (n : Int)), some (.ref L), some (.ref pu), some (.ref pw), none, none, none, none, none, none, none, none] ∧ H' = H3, ?_, ?_⟩
  · exact ⟨_, rfl, _, rfl, _, _, rfl, rfl, rfl⟩
  rintro σ4 H4 ⟨rfl, rfl⟩
  refine ⟨fun σ H' => σ = [some (.ref pu), some (.ref pw), some (.int (n : Int)), some (.ref L), some (.ref pu), some (.ref pw), some (.int 1), some (.int 1), none, none, none, none, none, none] ∧ H' = H4, ?_, ?_⟩
  · exact ⟨rfl, rfl⟩
  rintro σ5 H5 ⟨rfl, rfl⟩
  refine ⟨fun σ H' => ∃ xs x2 x4 x5 x6 x7 x8 x9 x10 x11 x12 x13, σ = [some (.ref pu), some (.ref pw), x2, some (.ref L), x4, x5, x6, x7, x8, x9, x10, x11, x12, x13] ∧ Same H1 H' ∧ H' L = some (.lst xs) ∧ RoA H' xs fd, ?_, ?_⟩
  · refine ⟨SubInv H1 pu pw L fd, ?_, ?_⟩
    · refine ⟨5, xs, n, pu, pw, one, other, 1, 1, W, _, _, _, _, _, _, _, rfl, s3, eL, rL, s3 _ _ eu, s3 _ _ ew, hgo, by decide, by decide, hn, by omega, by omega, ?_, ?_, w1, w2, ?_, ?_, W10, hW⟩
      · rw [List.length_set, List.length_append, List.length_replicate]; show n + 1 ≤ 6; omega
      · rw [List.length_set, List.length_append, List.length_replicate]; show n < n + 1; omega
      · show 1 < 2 ^ W; exact Nat.one_lt_two_pow (by omega)
      · show 1 < 2 ^ W; exact Nat.one_lt_two_pow (by omega)
    rintro m σ H6 ⟨xs, at_, p4, p5, upper, lower, scale, lead, Kb, fdl, x8, x9, x10, x11, x12, x13, rfl, s6, eL, rL, e4, e5, hg, hs, hl, lu, a1, a5, lf6, lf, wu, wl, ws, wd, K10, hK⟩
    have kt2 : (at_ + 1) * Kb ≤ 980000 := by
      have h1 := Nat.mul_le_mul_right Kb (pw5b a1)
      have h2 : 2 * 5 ^ (at_ - 1) * Kb = 2 * (Kb * 5 ^ (at_ - 1)) := by rw [Nat.mul_assoc, Nat.mul_comm Kb]
      omega
    obtain ⟨m, rfl⟩ : ∃ k, m = k + 1 := by
      cases m with
      | zero => rw [srGo] at hg; cases hg
      | succ k => exact ⟨k, rfl⟩
    rw [srGo] at hg
    refine ⟨_, rfl, _, .inr (.inl ⟨_, SqT.of e5, rfl⟩), ?_⟩
    by_cases cl : lower = []
    · rw [if_pos cl] at hg
      injection hg with hg
      subst hg
      rw [cl]
      exact iteF ⟨xs, _, _, _, _, _, _, _, _, _, _, _, rfl, s6, eL, rL⟩
    rw [if_neg cl] at hg
    by_cases c0 : hd lower = 0 ∨ at_ < lower.length
    · rw [if_pos c0] at hg; cases hg
    rw [if_neg c0] at hg
    have h0 : hd lower ≠ 0 := fun z => c0 (.inl z)
    have hal : lower.length ≤ at_ := by omega
    obtain ⟨lw, hlw⟩ : ∃ k, lower.length = k + 1 := ⟨lower.length - 1, by have := List.length_pos_iff.mpr cl; omega⟩
    dsimp only at hg
    rw [hlw, show lw + 1 - 1 = lw by omega] at hg
    rw [show (!(lower.map V.int).isEmpty) = true by cases lower with | nil => exact absurd rfl cl | cons a r => rfl]
    refine iteT ⟨SubInv H1 pu pw L fd m, fun σ' H' h => ⟨m, Nat.lt_succ_self m, h⟩, ?_⟩
    refine ⟨fun σ H' => σ = [some (.ref pu), some (.ref pw), some (.int (at_ : Int)), some (.ref L), some (.ref p4), some (.ref p5), some (.int scale), some (.int lead), some (.int (lw : Int)), x9, x10, x11, x12, x13] ∧ H' = H6, ?_, ?_⟩
    · refine ⟨_, rfl, p5, _, rfl, .inr (SqT.of e5), _, _, rfl, rfl, ?_, rfl⟩
      rw [List.length_map, hlw]
      show [_, _, _, _, _, _, _, _, some (V.int (((lw + 1 : Nat) : Int) - 1)), _, _, _, _, _] = _
      rw [show (((lw + 1 : Nat) : Int) - 1) = (lw : Int) by omega]
    rintro σ7 H7 ⟨rfl, rfl⟩
    refine ⟨fun σ H' => σ = [some (.ref pu), some (.ref pw), some (.int (at_ : Int)), some (.ref L), some (.ref p4), some (.ref p5), some (.int scale), some (.int lead), some (.int (lw : Int)), some (.int (hd lower)), x10, x11, x12, x13] ∧ H' = H7, ?_, ?_⟩
    · exact ⟨_, rfl, _, rfl, p5, _, _, _, rfl, rfl, SqT.of e5, at_last (by omega), rfl, rfl⟩
    rintro σ8 H8 ⟨rfl, rfl⟩
    generalize hown : oh (hd lower) scale (at_ - 1 - lw) = own at hg
    refine ⟨fun σ H' => σ = [some (.ref pu), some (.ref pw), some (.int (at_ : Int)), some (.ref L), some (.ref p4), some (.ref p5), some (.int scale), some (.int lead), some (.int (lw : Int)), some (.int (hd lower)), some (.int own), x11, x12, x13] ∧ Same H8 H', ?_, ?_⟩
    · refine ⟨_, rfl, _, rfl, _, rfl, _, _, rfl, rfl, _, rfl, _, _, rfl, rfl, hd lower, scale, at_ - 1 - lw, Kb, ?_, wl.hd, hs, by omega, ?_, fun H9 s9 => ⟨?_, s9⟩⟩
      · show [_, _, V.int ((at_ : Int) - 1 - (lw : Int))] = _
        rw [show (at_ : Int) - 1 - (lw : Int) = ((at_ - 1 - lw : Nat) : Int) by omega]
      · have := Nat.mul_le_mul_right Kb (show at_ - 1 - lw + 2 ≤ at_ + 1 by omega)
        omega
      · rw [hown]; rfl
    rintro σ9 H9 ⟨rfl, s9⟩
    have wo : Wd ((at_ - lw) * Kb) own := by
      have := oh_wd wl.hd hs (at_ - 1 - lw)
      rw [hown] at this
      rw [show at_ - 1 - lw + 1 = at_ - lw by omega] at this
      exact this
    have ne4 : p4 ≠ L := fun z => by rw [z, eL] at e4; cases e4
    have ne5 : p5 ≠ L := fun z => by rw [z, eL] at e5; cases e5
    have s19 := s6.trans s9
    have e49 := s9 _ _ e4
    have e59 := s9 _ _ e5
    have eL9 := s9 _ _ eL
    have rL9 := rL.kt (Kt.of s9)
    generalize hf1 : (if lw < at_ - 1 then fdl.set lw (lower.map fun n => (own * n).fdiv (hd lower)) else fdl) = found1 at hg
    have lf1 : found1.length = fdl.length := by rw [← hf1]; split; rw [List.length_set]; rfl
    refine ⟨fun σ H' => ∃ xs, σ = [some (.ref pu), some (.ref pw), some (.int (at_ : Int)), some (.ref L), some (.ref p4), some (.ref p5), some (.int scale), some (.int lead), some (.int (lw : Int)), some (.int (hd lower)), some (.int own), x11, x12, x13] ∧ Same H1 H' ∧ H' L = some (.lst xs) ∧ RoA H' xs found1 ∧ H' p4 = some (.tup (upper.map V.int)) ∧ H' p5 = some (.tup (lower.map V.int)), ?_, ?_⟩
    · refine ⟨_, rfl, _, rfl, _, _, rfl, rfl, _, _, rfl, rfl, _, rfl, ite2 (fun c => ?_) (fun c => ?_)⟩
      · have c := of_decide_eq_true c
        have c2 : lw < at_ - 1 := by omega
        rw [if_pos c2] at hf1
        have hmul := Nat.mul_le_mul_right Kb (show at_ - lw + 1 ≤ at_ + 1 by omega)
        rw [Nat.add_mul, Nat.one_mul] at hmul
        refine lc_relT (S := fun _ v k => v = V.int k) (R := fun _ v k => v = V.int k) (g := fun x => (own * x).fdiv (hd lower)) (rs := lower) (p := p5) (xs := lower.map V.int) (stable_eq _) (stable_eq _) rfl e59 (RelA.of_map _) (by omega) (fun x => wipeJ _ _ _) (fun x d Ha hd' sa rx Z hZ => ?_) fun D ys Ha sa nD eD ry => ?_
        · subst rx
          exact ⟨_, rfl, _, rfl, _, _, rfl, rfl, wo.cm (wl d hd') (by omega), _, rfl, _, _, rfl, rfl, h0, hZ _ _ (Same.refl _) rfl⟩
        · have ey := RelA.eq_map ry
          refine ⟨D, _, rfl, .inl ⟨SqL.of eD, fun l nl => ?_⟩⟩
          have sb := sa.trans (same_new (o := .tup ys) nl)
          have eLb := sb _ _ eL9
          refine ⟨_, rfl, _, rfl, L, _, _, lw, rfl, rfl, eLb, ixN_nat (by rw [rL.1]; omega), _, rfl, fun b o e => ?_, upd_same, ?_, ?_, ?_⟩
          · rw [upd_ne (ne_of_none e nL)]; exact (s19.trans sb) _ _ e
          · rw [← hf1]
            exact ((rL9.kt (Kt.of sb)).set lw ⟨l, rfl, by rw [upd_same, ey, List.map_map]; try rfl⟩).kt (kt_upd eLb)
          · rw [upd_ne ne4]; exact sb _ _ e49
          · rw [upd_ne ne5]; exact sb _ _ e59
      · have c2 : ¬ lw < at_ - 1 := fun z => c (decide_eq_true (by omega))
        rw [if_neg c2] at hf1
        subst hf1
        exact ⟨xs, rfl, s19, eL9, rL9, e49, e59⟩
    rintro σ10 H10 ⟨xs2, rfl, s10, eL10, rL10, e410, e510⟩
    refine ⟨fun σ H' => σ = [some (.ref pu), some (.ref pw), some (.int (at_ : Int)), some (.ref L), some (.ref p4), some (.ref p5), some (.int scale), some (.int lead), some (.int (lw : Int)), some (.int (hd lower)), some (.int own), x11, x12, x13] ∧ H' = H10 ∧ lw ≠ 0, ?_, ?_⟩
    · refine ⟨_, rfl, rfl, _, rfl, ite2 (fun c => ?_) (fun c => ?_)⟩
      · have c := of_decide_eq_true c
        injection c with c
        rw [if_pos (show lw = 0 by omega)] at hg
        injection hg with hg
        subst hg
        exact ⟨xs2, _, _, _, _, _, _, _, _, _, _, _, rfl, s10, eL10, rL10⟩
      · exact ⟨rfl, rfl, fun z => c (decide_eq_true (by rw [z]; rfl))⟩
    rintro σ11 H11 ⟨rfl, rfl, lw0⟩
    rw [if_neg lw0] at hg
    by_cases o0 : own = 0
    · rw [if_pos o0] at hg; cases hg
    rw [if_neg o0] at hg
    have d1 : 1 ≤ at_ - lw := by omega
    have hkb := kb1 d1 (show at_ - lw ≤ 5 by omega) K10
    have hK2 : 5 ^ (at_ - lw) * Kb * 5 ^ (lw - 1) = Kb * 5 ^ (at_ - 1) := by
      rw [Nat.mul_comm (5 ^ (at_ - lw)) Kb, Nat.mul_assoc, ← Nat.pow_add, show at_ - lw + (lw - 1) = at_ - 1 by omega]
    have hK3 : 5 ^ (at_ - lw) * Kb ≤ 490000 := by
      have := Nat.le_mul_of_pos_right (5 ^ (at_ - lw) * Kb) (Nat.pow_pos (n := lw - 1) (show 0 < 5 by decide))
      omega
    generalize hdel : at_ - lw = δ at *
    have e2δ : (2 * δ + 2) * Kb = δ * Kb + (Kb + (δ + 1) * Kb) := by
      rw [show 2 * δ + 2 = δ + (1 + (δ + 1)) by omega, Nat.add_mul, Nat.add_mul, Nat.one_mul]
    have e3δ : (δ + 1) * (Kb + 1) = (δ + 1) * Kb + (δ + 1) := by rw [Nat.mul_add, Nat.mul_one]
    have e4δ : (δ + 1) * Kb = δ * Kb + Kb := by rw [Nat.add_mul, Nat.one_mul]
    refine ⟨fun σ H' => σ = [some (.ref pu), some (.ref pw), some (.int (at_ : Int)), some (.ref L), some (.ref p4), some (.ref p5), some (.int scale), some (.int lead), some (.int (lw : Int)), some (.int (hd lower)), some (.int own), x11, some (.int (hd lower ^ δ * scale * lead)), x13] ∧ Same H11 H', ?_, ?_⟩
    · have wp := wl.hd.pow δ
      refine ⟨_, rfl, _, rfl, _, rfl, _, _, rfl, rfl, hd lower, δ, Kb, ?_, wl.hd, by omega, by omega, fun H12 s12 => ⟨_, rfl, _, _, rfl, rfl, wp.cm ws (by omega), _, rfl, _, _, rfl, rfl, (wp.mul ws).cm wd (by omega), rfl, s12⟩⟩
      show [_, V.int ((at_ : Int) - (lw : Int))] = _
      rw [show (at_ : Int) - (lw : Int) = (δ : Int) by omega]
    rintro σ12 H12 ⟨rfl, s12⟩
    have ov : hd lower ^ δ * scale * lead ≠ 0 := Int.mul_ne_zero (Int.mul_ne_zero (Int.pow_ne_zero h0) hs) hl
    generalize hd lower ^ δ * scale * lead = over at *
    have e412 := s12 _ _ e410
    have e512 := s12 _ _ e510
    have wfr : WdA (Kb + (δ + 1) * (Kb + 1)) (fr upper lower) := by
      have := (frGo_wd wl (upper.length - lower.length + 1) wu (by omega) (by omega)).1
      rw [show upper.length - lower.length + 1 = δ + 1 by omega] at this
      have := this.trim
      unfold fr
      rw [show upper.length - lower.length + 1 = δ + 1 by omega]
      exact this
    have lfr : (fr upper lower).length ≤ lw := by
      have := (frGo_wd wl (upper.length - lower.length + 1) wu (by omega) (by omega)).2
      have h2 := trimBy_len (fun c : Int => c == 0) (frGo lower (upper.length - lower.length + 1) upper)
      unfold fr trimI
      omega
    generalize hrest : (fr upper lower).map (fun n => (-own * n).fdiv over) = rest at hg
    have wrest : WdA (5 ^ δ * Kb) rest := fun c hc => by
      rw [← hrest] at hc
      obtain ⟨x, hx, rfl⟩ := List.mem_map.mp hc
      exact ((wo.neg.mul (wfr x hx)).fdiv ov).up (by omega)
    refine ⟨fun σ H' => ∃ p13, σ = [some (.ref pu), some (.ref pw), some (.int (at_ : Int)), some (.ref L), some (.ref p4), some (.ref p5), some (.int scale), some (.int lead), some (.int (lw : Int)), some (.int (hd lower)), some (.int own), x11, some (.int over), some (.ref p13)] ∧ Same H12 H' ∧ H' p13 = some (.tup (rest.map V.int)), ?_, ?_⟩
    · refine ⟨_, rfl, _, rfl, _, _, upper, lower, Kb, rfl, ⟨p4, rfl, e412⟩, ⟨p5, rfl, e512⟩, by omega, by omega, by omega, wu, wl, ?_, fun z H13 s13 rz => ?_⟩
      · rw [show upper.length - lower.length + 1 = δ + 1 by omega]; omega
      obtain ⟨pf, rfl, ef⟩ := rz
      have hRel := RelA.of_map (f := V.int) (H := H13) (fr upper lower)
      refine ⟨pf, rfl, ⟨_, SqT.of ef⟩, fun D hD => ?_⟩
      refine lc_tup (xs := (fr upper lower).map V.int) (fun m H' => Same H13 H' ∧ H' D = some (.lst ((((fr upper lower).take m).map fun n => (-own * n).fdiv over).map V.int))) ⟨same_new hD, upd_same⟩ (fun m H' _ h => SqT.of (h.1 _ _ ef)) (fun m x Ha hx h => ?_) (fun H' h => ?_)
      · obtain ⟨h1, h2⟩ := h
        have hm : m < (fr upper lower).length := by have := (List.getElem?_eq_some_iff.mp hx).1; rwa [List.length_map] at this
        rw [at_g hm] at hx
        injection hx with hx
        subst hx
        refine ⟨wipeJ _ _ _, ?_⟩
        unfold tYes
        simp only [if_true]
        refine ⟨_, rfl, _, rfl, _, rfl, _, _, rfl, rfl, wo.neg.cm (wfr.g m) (by omega), _, rfl, _, _, rfl, rfl, ov, _, h2, lt_line (by rw [List.length_map, List.length_map, List.length_take]; omega), same_upd h1 hD, ?_⟩
        rw [upd_same, List.take_add_one, List.getElem?_eq_getElem hm, List.map_append, List.map_append, g_some hm]
        rfl
      · obtain ⟨h1, h2⟩ := h
        rw [List.length_map, List.take_length, hrest] at h2
        exact ⟨D, _, rfl, .inl ⟨SqL.of h2, fun l nl => ⟨l, rfl, s13.trans (h1.trans (same_new nl)), upd_same⟩⟩⟩
    rintro σ13 H13 ⟨p13, rfl, s13, e13⟩
    have sA := s12.trans s13
    have eL13 := sA _ _ eL10
    have ne13 : p13 ≠ L := fun z => by rw [z, eL13] at e13; cases e13
    refine ⟨fun σ H' => ∃ xs, σ = [some (.ref pu), some (.ref pw), some (.int (at_ : Int)), some (.ref L), some (.ref p4), some (.ref p5), some (.int scale), some (.int lead), some (.int (lw : Int)), some (.int (hd lower)), some (.int own), x11, some (.int over), some (.ref p13)] ∧ Same H1 H' ∧ H' L = some (.lst xs) ∧ RoA H' xs (found1.set (lw - 1) rest) ∧ H' p5 = some (.tup (lower.map V.int)) ∧ H' p13 = some (.tup (rest.map V.int)), ?_, ?_⟩
    · refine ⟨_, rfl, _, rfl, _, rfl, _, _, rfl, rfl, L, _, _, lw - 1, rfl, rfl, eL13, ?_, _, rfl, fun b o e => ?_, upd_same, ?_, ?_, ?_⟩
      · rw [show (lw : Int) - 1 = ((lw - 1 : Nat) : Int) by omega]
        exact ixN_nat (by rw [rL10.1]; omega)
      · rw [upd_ne (ne_of_none e nL)]; exact (s10.trans sA) _ _ e
      · exact ((rL10.kt (Kt.of sA)).set (lw - 1) ⟨p13, rfl, e13⟩).kt (kt_upd eL13)
      · rw [upd_ne ne5]; exact sA _ _ e510
      · rw [upd_ne ne13]; exact e13
    rintro σ14 H14 ⟨xs14, rfl, s14, eL14, rL14, e514, e1314⟩
    refine ⟨fun σ H' => σ = [some (.ref pu), some (.ref pw), some (.int (lw : Int)), some (.ref L), some (.ref p5), some (.ref p13), some (.int scale), some (.int lead), some (.int (lw : Int)), some (.int (hd lower)), some (.int own), x11, some (.int over), some (.ref p13)] ∧ H' = H14, ?_, ?_⟩
    · exact ⟨_, rfl, _, rfl, _, rfl, _, _, _, rfl, rfl, rfl⟩
    rintro σ15 H15 ⟨rfl, rfl⟩
    refine ⟨_, rfl, _, rfl, _, _, rfl, xs14, lw, p5, p13, lower, rest, own, hd lower, 5 ^ δ * Kb, found1.set (lw - 1) rest, _, _, _, _, _, _, rfl, s14, eL14, rL14, e514, e1314, ?_, o0, h0, hlw, by omega, by omega, ?_, ?_, wl.up (by omega), wrest, wo.up (by omega), wl.hd.up (by omega), by omega, by rw [hK2]; exact hK⟩
    · exact hg
    · rw [List.length_set]; omega
    · rw [List.length_set]; omega
  rintro σ6 H6 ⟨xs, x2, x4, x5, x6, x7, x8, x9, x10, x11, x12, x13, rfl, s6, eL, rL⟩
  refine ⟨_, rfl, L, xs, rfl, .inl ⟨SqL.of eL, fun l nl => q _ _ (s6.trans (same_new nl)) ⟨l, xs, rfl, upd_same, rL.kt (Kt.of (same_new nl))⟩⟩⟩
end
end K25

set_option Elab.async false
set_option linter.all false
set_option maxRecDepth 100000
set_option maxHeartbeats 8000000
local macro_rules | `(tactic| walk_at "rd") => `(tactic| dsimp only [Evl.tCut, L2.tSeq, L2.tNext, L2.tRet, L2.tRetN, L2.tAsg, L2.gName, L2.tIfS, L2.tDrop, L2.tCons, L2.tNil, L2.tC, L2.tVar, L2.tCB, L2.tAndV, L2.tOrV, L2.tNotV, L2.tB, L2.tTest, L2.tOp, L2.tUn, L2.tNot, L2.tAnd, L2.tOr, L2.tIf, L2.tCall, L2.tTup, L2.tLst, L2.tNotT, L2.tYes, L2.gTup, L2.gCons, L2.gNil, L2.gSub, L2.tBM0, L2.tBM, L2.tWhile, L2.tFor, L2.iRng1, L2.iRng2, L2.tAugS, Tw.iEnumT, L2.tCKw, L2.tAug, L2.ipI, RT.iRevA, L2.iRevR, L2.tPar, L2.tPar3, L2.tSl, L2.tNoPart, L2.tPart, Tw.tRevT, L2.rAdd, L2.rSub, L2.tBits])
namespace K25
open PySem PySem.Spec PyProof.Rows L2 Tw
/-! sizes, bits, packed POLYs -/
def sumN (p : List (List Int)) : Nat := (p.map nm).sum
def spSizes : Sp := fun vs H Q _ => ∃ u p, vs = [u] ∧ Po H u p ∧ p.length ≤ 100 ∧ (∀ r ∈ p, r.length ≤ 100) ∧ ∀ H', Same H H' → Q (.int ((sumN p : Nat) : Int)) H'
def szOf (p q : List (List Int)) : Nat := sumN p ^ q.length * sumN q ^ p.length
def spBitsFor : Sp := fun vs H Q _ => ∃ (u v : V) (p q : List (List Int)) (B : Nat), vs = [u, v] ∧ Po H u p ∧ Po H v q ∧ p.length ≤ 100 ∧ q.length ≤ 100 ∧ (∀ r ∈ p, r.length ≤ 100) ∧ (∀ r ∈ q, r.length ≤ 100) ∧ sumN p < 2 ^ B ∧ sumN q < 2 ^ B ∧ B ≤ 1000 ∧
  ∀ (b : Nat) H', szOf p q < 2 ^ b → (∀ c : Nat, szOf p q < 2 ^ c → b ≤ c) → Same H H' → Q (.int ((b + 2 : Nat) : Int)) H'
def spPackedP : Sp := fun vs H Q _ => ∃ (u : V) (p : List (List Int)) (b : Nat), vs = [u, .int (b : Int)] ∧ Po H u p ∧ p.length ≤ 100 ∧ (∀ r ∈ p, r.length ≤ 100 ∧ nm r < 2 ^ b) ∧ b ≤ 10000 ∧ ∀ z H', Same H H' → Ro H' z (p.map (ev (2 ^ b))) → Q z H'
theorem sum_abs : ∀ r : List Int, (r.map fun x => ((x.natAbs : Nat) : Int)).sum = ((nm r : Nat) : Int)
  | [] => rfl
  | a :: r => by rw [List.map_cons, List.sum_cons, sum_abs r, nm]; omega
theorem sum_nm : ∀ p : List (List Int), (p.map fun r => ((nm r : Nat) : Int)).sum = ((sumN p : Nat) : Int)
  | [] => rfl
  | a :: p => by
    have := sum_nm p
    rw [List.map_cons, List.sum_cons, this]
    unfold sumN
    rw [List.map_cons, List.sum_cons]
    omega
section
variable {P : Program} {w : World} {K : PySem.W.Frag} {mg : Str → Option Value} {base : Heap}
theorem scSizes : FnScope ["poly", "row", "number"] ["poly"] (defScope sSizes) := ⟨rfl, rfl, rfl, by decide +kernel, rfl, by decide +kernel, by decide +kernel⟩
theorem ok_sizes (D : Def K mg "sum_of_sizes" sSizes ["poly"]) (nb : Nb mg) : Cal P w K mg base "sum_of_sizes" 1 ["poly"] spSizes := by
  refine D.ok scSizes (fun vs H Q E h => ?_) (fun f cdv A out s H vs Q E hr h => ?_)
  · obtain ⟨u, p, rfl, _⟩ := h; rfl
  obtain ⟨u, p, rfl, ⟨pu, xs, rfl, eu, ru⟩, lp, lr, q⟩ := h
  refine ⟨_, pss_one (ps_ret (pe_callB (id := "sum") (r := rSum K) (cr_sum rfl) (by rfl) nb.sum (by decide +kernel) (pa_cons (pe_lc (own := [("row", 1)]) (g := gName 1) (tt := tYes) rfl scSizes.nd (pi_tup (pv 0)) (blkOk_by (N := ["poly", "row", "number"]) (sc := defScope sSizes) (by decide +kernel)) (fun _ _ _ _ _ => pg_name (i := 1) scSizes.nd rfl (Or.inl rfl)) (fun _ _ _ _ _ => pts_nil) (fun _ _ _ _ _ => (pe_callB (id := "sum") (r := rSum K) (cr_sum rfl) (by rfl) nb.sum (by decide +kernel) (pa_cons (pe_lc (own := [("number", 2)]) (wi := L2.iTup K (L2.tVar 1)) (g := gName 2) (tt := tYes) rfl scSizes.nd (by exact pi_tup (pv 1)) (blkOk_by (N := ["poly", "row", "number"]) (sc := { kind := .function, names := [(".0", .local), ("row", .local), ("sum", .globalImplicit)], isGenerator := false, isCoroutine := false }) (by decide +kernel)) (fun _ _ _ _ _ => pg_name (i := 2) scSizes.nd rfl (Or.inl rfl)) (fun _ _ _ _ _ => pts_nil) (fun _ _ _ _ _ => (pe_callB (id := "abs") call_abs (by rfl) nb.abs (by decide +kernel) (pa_cons (pv 2) pa_nil)))) pa_nil)))) pa_nil))), ?_⟩
  walk_at "rd"
  refine lc_relT (S := Ro) (R := fun _ v k => v = V.int k) (g := fun r => ((nm r : Nat) : Int)) (rs := p) (p := pu) (xs := xs) stable_ro (stable_eq _) rfl eu ru (by omega) (fun x => wipeJ _ _ _) (fun x d Ha hd' sa rx Z hZ => ?_) fun D ys Ha sa nD eD ry => ?_
  · obtain ⟨pd, rfl, ed⟩ := rx
    walk_at "rd"
    refine lc_relT (S := fun _ v k => v = V.int k) (R := fun _ v k => v = V.int k) (g := fun x => ((x.natAbs : Nat) : Int)) (rs := d) (p := pd) (xs := d.map V.int) (stable_eq _) (stable_eq _) rfl ed (RelA.of_map _) (by have := lr d hd'; omega) (fun x => wipeJ _ _ _) (fun x c Hb hc sb rx Y hY => ?_) fun D ys Hb sb nD eD ry => ?_
    · subst rx
      exact ⟨_, rfl, c, rfl, hY _ _ (Same.refl _) (by congr 1; split <;> omega)⟩
    · have ey := RelA.eq_map ry
      refine ⟨D, _, rfl, SqL.of (by rw [eD, ey]), ?_⟩
      rw [sum_abs]
      exact hZ _ _ sb rfl
  · have ey := RelA.eq_map ry
    refine ⟨D, _, rfl, SqL.of (by rw [eD, ey]), ?_⟩
    rw [sum_nm]
    exact q _ sa
theorem scBitsFor : FnScope ["one", "other", "size"] ["one", "other"] (defScope sBitsFor) := ⟨rfl, rfl, rfl, by decide +kernel, rfl, by decide +kernel, by decide +kernel⟩
theorem ok_bitsFor (D : Def K mg "bits_for" sBitsFor ["one", "other"]) (nb : Nb mg) (cp : Cal P w K mg base "power" 1 ["base", "many"] spPower) (cs : Cal P w K mg base "sum_of_sizes" 1 ["poly"] spSizes) : Cal P w K mg base "bits_for" 2 ["one", "other"] spBitsFor := by
  refine D.ok scBitsFor (fun vs H Q E h => ?_) (fun f cdv A out s H vs Q E hr h => ?_)
  · obtain ⟨u, v, p, q, B, rfl, _⟩ := h; rfl
  obtain ⟨u, v, p, q', B, rfl, hu, hv, lp, lq, rp, rq, sp, sq, hB, q⟩ := h
  refine ⟨_, pss_cons (ps_set (i := 2) scBitsFor.nd rfl (Or.inl rfl) (pe_op op_mulW (pe_cal cp hr (by omega) (by rfl) (pa_cons (pe_cal cs hr (by omega) (by rfl) (pa_cons (pv 0) pa_nil)) (pa_cons (pe_callB (id := "len") (r := rLn K) call_len_seq (by rfl) nb.len PySem.boot_len (pa_cons (pv 1) pa_nil)) pa_nil))) (pe_cal cp hr (by omega) (by rfl) (pa_cons (pe_cal cs hr (by omega) (by rfl) (pa_cons (pv 1) pa_nil)) (pa_cons (pe_callB (id := "len") (r := rLn K) call_len_seq (by rfl) nb.len PySem.boot_len (pa_cons (pv 0) pa_nil)) pa_nil)))))
    (pss_one (ps_ret (pe_op op_add (pe_bits (pv 2)) pe_int))), ?_⟩
  walk_at "rd"
  obtain ⟨pu, xs, rfl, eu, ru⟩ := hu
  obtain ⟨pw, ys, rfl, ew, rw⟩ := hv
  have wp : Wd B ((sumN p : Nat) : Int) := by unfold Wd; rw [Int.natAbs_natCast]; exact sp
  have wq : Wd B ((sumN q' : Nat) : Int) := by unfold Wd; rw [Int.natAbs_natCast]; exact sq
  have hpB := Nat.mul_le_mul lp hB
  have hqB := Nat.mul_le_mul lq hB
  refine ⟨_, rfl, .ref pu, p, rfl, ⟨pu, xs, rfl, eu, ru⟩, lp, rp, fun H1 s1 => ⟨_, rfl, pw, ys, rfl, .inr (SqT.of (s1 _ _ ew)), _, q'.length, B, ?_, wp, by omega, by omega, fun H2 s2 => ?_⟩⟩
  · rw [rw.1]; rfl
  have s12 := s1.trans s2
  refine ⟨_, rfl, .ref pw, q', rfl, ⟨pw, ys, rfl, s12 _ _ ew, rw.kt (Kt.of s12)⟩, lq, rq, fun H3 s3 => ⟨_, rfl, pu, xs, rfl, .inr (SqT.of ((s12.trans s3) _ _ eu)), _, p.length, B, ?_, wq, by omega, by omega, fun H4 s4 => ?_⟩⟩
  · rw [ru.1]; rfl
  have e : (((sumN p : Nat) : Int) ^ q'.length) * (((sumN q' : Nat) : Int) ^ p.length) = ((szOf p q' : Nat) : Int) := by
    unfold szOf
    rw [Int.natCast_mul, Int.natCast_pow, Int.natCast_pow]
  refine ⟨_, _, rfl, rfl, (wp.pow _).cm (wq.pow _) (by omega), _, rfl, _, rfl, _, _, rfl, rfl, ?_⟩
  dsimp only
  rw [e]
  have hb : szOf p q' < 2 ^ Builtin.Int.intBits ((szOf p q' : Nat) : Int) := by
    unfold Builtin.Int.intBits
    rw [Int.natAbs_natCast]
    split
    · rename_i z
      have z : ((szOf p q' : Nat) : Int) = 0 := by simpa using z
      rw [show szOf p q' = 0 by omega]; decide
    · exact Nat.lt_log2_self
  have := q (Builtin.Int.intBits ((szOf p q' : Nat) : Int)) H4 hb (fun c hc => intBits_le (by unfold Wd; rw [Int.natAbs_natCast]; exact hc)) (s12.trans (s3.trans s4))
  rw [Int.natCast_add] at this
  exact this
theorem scPackedP : FnScope ["poly", "bits", "row"] ["poly", "bits"] (defScope sPackedP) := ⟨rfl, rfl, rfl, by decide +kernel, rfl, by decide +kernel, by decide +kernel⟩
theorem ok_packedP (D : Def K mg "packed_poly" sPackedP ["poly", "bits"]) (nb : Nb mg) (ck : Cal P w K mg base "packed" 1 ["row", "bits"] spPacked) : Cal P w K mg base "packed_poly" 2 ["poly", "bits"] spPackedP := by
  refine D.ok scPackedP (fun vs H Q E h => ?_) (fun f cdv A out s H vs Q E hr h => ?_)
  · obtain ⟨u, p, b, rfl, _⟩ := h; rfl
  obtain ⟨u, p, b, rfl, ⟨pu, xs, rfl, eu, ru⟩, lp, lr, hb, q⟩ := h
  refine ⟨_, pss_one (ps_ret (pe_callTy (T := "tuple") call_tuple_of (by rfl) nb.tup (by decide +kernel) (pa_cons (pe_lc (own := [("row", 2)]) (g := gName 2) (tt := tYes) rfl scPackedP.nd (pi_tup (pv 0)) (blkOk_by (N := ["poly", "bits", "row"]) (sc := defScope sPackedP) (by decide +kernel)) (fun _ _ _ _ _ => pg_name (i := 2) scPackedP.nd rfl (Or.inl rfl)) (fun _ _ _ _ _ => pts_nil) (fun _ _ _ _ _ => (pe_cal ck hr (by omega) (by rfl) (pa_cons (pv 2) (pa_cons (pv 1) pa_nil))))) pa_nil))), ?_⟩
  walk_at "rd"
  refine lc_relT (S := Ro) (R := fun _ v k => v = V.int k) (g := fun r => ev (2 ^ b) r) (rs := p) (p := pu) (xs := xs) stable_ro (stable_eq _) rfl eu ru (by omega) (fun x => wipeJ _ _ _) (fun x d Ha hd' sa rx Z hZ => ?_) fun D ys Ha sa nD eD ry => ?_
  · exact ⟨_, rfl, _, rfl, x, d, b, rfl, rx, (lr d hd').1, hb, (lr d hd').2, fun Hb sb => hZ _ _ sb rfl⟩
  · have ey := RelA.eq_map ry
    exact ⟨D, _, rfl, .inl ⟨SqL.of eD, fun l nl => q _ _ (sa.trans (same_new nl)) ⟨l, rfl, by rw [upd_same, ey]⟩⟩⟩
end
end K25

set_option Elab.async false
set_option linter.all false
set_option maxRecDepth 100000
set_option maxHeartbeats 4000000
/-! determinants of tables of whole numbers: by the first column; linear in each row; 0 for two rows alike; Chio's identity -/
namespace K25
abbrev Mx := Nat → Nat → Int
def sm (f : Nat → Int) : Nat → Int
  | 0 => 0
  | n + 1 => sm f n + f n
theorem sm_ext {f h : Nat → Int} : ∀ n, (∀ i, i < n → f i = h i) → sm f n = sm h n
  | 0, _ => rfl
  | n + 1, e => by rw [sm, sm, sm_ext n fun i hi => e i (by omega), e n (by omega)]
theorem sm_lin {f h k : Nat → Int} {a b : Int} : ∀ n, (∀ i, i < n → f i = a * h i + b * k i) → sm f n = a * sm h n + b * sm k n
  | 0, _ => by simp [sm]
  | n + 1, e => by rw [sm, sm, sm, sm_lin n fun i hi => e i (by omega), e n (by omega)]; grind
theorem sm_zero {f : Nat → Int} : ∀ n, (∀ i, i < n → f i = 0) → sm f n = 0
  | 0, _ => rfl
  | n + 1, e => by rw [sm, sm_zero n fun i hi => e i (by omega), e n (by omega)]; rfl
/-- all but one are 0 -/
theorem sm_one {f : Nat → Int} {k : Nat} : ∀ n, k < n → (∀ i, i < n → i ≠ k → f i = 0) → sm f n = f k
  | 0, h, _ => absurd h (by omega)
  | n + 1, h, e => by
    rw [sm]
    by_cases c : k = n
    · subst c
      rw [sm_zero k fun i hi => e i (by omega) (by omega)]; omega
    · rw [sm_one n (by omega) fun i hi => e i (by omega), e n (by omega) (by omega)]; omega
/-- all but two neighbours are 0, and these cancel -/
theorem sm_two {f : Nat → Int} {k : Nat} : ∀ n, k + 1 < n → (∀ i, i < n → i ≠ k → i ≠ k + 1 → f i = 0) → f k + f (k + 1) = 0 → sm f n = 0
  | 0, h, _, _ => absurd h (by omega)
  | n + 1, h, e, z => by
    rw [sm]
    by_cases c : k + 1 = n
    · subst c
      rw [sm_one (k := k) (k + 1) (by omega) fun i hi h1 => e i (by omega) h1 (by omega)]; exact z
    · rw [sm_two n (by omega) (fun i hi => e i (by omega)) z, e n (by omega) (by omega) (by omega)]; rfl
def sg (i : Nat) : Int := if i % 2 = 0 then 1 else -1
theorem sg_succ (i : Nat) : sg (i + 1) = -sg i := by
  unfold sg
  rcases Nat.mod_two_eq_zero_or_one i with h | h
  · rw [if_neg (by omega), if_pos h]
  · rw [if_pos (by omega), if_neg (by omega)]; rfl
def sk (i r : Nat) : Nat := if r < i then r else r + 1
def mi (i : Nat) (M : Mx) : Mx := fun r c => M (sk i r) (c + 1)
def det : Nat → Mx → Int
  | 0, _ => 1
  | k + 1, M => sm (fun i => sg i * (M i 0 * det k (mi i M))) (k + 1)
theorem sk_lt {i r k : Nat} (h : r < k) : sk i r < k + 1 := by unfold sk; split <;> omega
theorem sk_ne (i r : Nat) : sk i r ≠ i := by unfold sk; split <;> omega
theorem det_ext : ∀ {k : Nat} {M N : Mx}, (∀ i j, i < k → j < k → M i j = N i j) → det k M = det k N
  | 0, _, _, _ => rfl
  | k + 1, M, N, h => by
    rw [det, det]
    refine sm_ext _ fun i hi => ?_
    rw [h i 0 hi (by omega), det_ext (k := k) (M := mi i M) (N := mi i N) fun r c hr hc => h _ _ (sk_lt hr) (by omega)]
/-- a row put in the place of row i -/
def up (M : Mx) (i : Nat) (v : Nat → Int) : Mx := fun r => if r = i then v else M r
theorem up_at (M : Mx) (i : Nat) (v : Nat → Int) : up M i v i = v := by unfold up; rw [if_pos rfl]
theorem up_ne {M : Mx} {i r : Nat} {v : Nat → Int} (h : r ≠ i) : up M i v r = M r := by unfold up; rw [if_neg h]
theorem up_self (M : Mx) (i : Nat) : up M i (M i) = M := by
  funext r
  by_cases c : r = i
  · subst c; exact up_at ..
  · exact up_ne c
theorem up_comm {M : Mx} {i j : Nat} {v w : Nat → Int} (h : i ≠ j) : up (up M i v) j w = up (up M j w) i v := by
  funext r
  by_cases c : r = i
  · subst c; rw [up_ne h, up_at, up_at]
  · by_cases d : r = j
    · subst d; rw [up_at, up_ne c, up_at]
    · rw [up_ne d, up_ne c, up_ne c, up_ne d]
theorem mi_up_at (M : Mx) (i : Nat) (v : Nat → Int) : mi i (up M i v) = mi i M := by
  funext r c
  unfold mi
  rw [up_ne (sk_ne i r)]
def dn (i r : Nat) : Nat := if r < i then r else r - 1
theorem mi_up_ne {M : Mx} {i r : Nat} {v : Nat → Int} (h : i ≠ r) : mi i (up M r v) = up (mi i M) (dn i r) fun c => v (c + 1) := by
  funext a c
  unfold mi
  by_cases e : a = dn i r
  · subst e
    have : sk i (dn i r) = r := by
      unfold sk dn
      by_cases d : r < i
      · rw [if_pos d, if_pos d]
      · rw [if_neg d, if_neg (by omega)]; omega
    rw [this, up_at, up_at]
  · rw [up_ne e, up_ne (fun z => e (by revert z; unfold sk dn; split <;> split <;> omega))]
theorem dn_lt {i r k : Nat} (h : i ≠ r) (hi : i < k + 1) (hr : r < k + 1) : dn i r < k := by unfold dn; split <;> omega
theorem det_lin : ∀ {k : Nat} {M : Mx} {i : Nat} {u v w : Nat → Int} {a b : Int}, i < k → (∀ c, w c = a * u c + b * v c) → det k (up M i w) = a * det k (up M i u) + b * det k (up M i v)
  | 0, _, _, _, _, _, _, _, h, _ => absurd h (by omega)
  | k + 1, M, i, u, v, w, a, b, h, e => by
    rw [det, det, det]
    refine sm_lin _ fun r hr => ?_
    by_cases c : r = i
    · subst c
      rw [mi_up_at, mi_up_at, mi_up_at, up_at, up_at, up_at, e]
      grind
    · rw [mi_up_ne c, mi_up_ne c, mi_up_ne c, up_ne c, up_ne c, up_ne c]
      rw [det_lin (k := k) (M := mi r M) (dn_lt c hr h) (fun x => e (x + 1))]
      grind
/-- two neighbours alike -/
theorem det_next : ∀ {k : Nat} {M : Mx} {i : Nat}, i + 1 < k → M i = M (i + 1) → det k M = 0
  | 0, _, _, h, _ => absurd h (by omega)
  | k + 1, M, i, h, e => by
    rw [det]
    refine sm_two (k := i) _ h (fun r hr h1 h2 => ?_) ?_
    · rcases Nat.lt_or_ge r i with c | c
      · rw [det_next (k := k) (M := mi r M) (i := i - 1) (by omega) (by
          funext x
          unfold mi sk
          rw [if_neg (by omega), if_neg (by omega)]
          rw [show i - 1 + 1 = i by omega, e]), Int.mul_zero, Int.mul_zero]
      · rw [det_next (k := k) (M := mi r M) (i := i) (by omega) (by
          funext x
          unfold mi sk
          rw [if_pos (by omega), if_pos (by omega), e]), Int.mul_zero, Int.mul_zero]
    · have : mi i M = mi (i + 1) M := by
        funext r c
        unfold mi sk
        by_cases d : r = i
        · subst d; rw [if_neg (by omega), if_pos (by omega), e]
        · by_cases d2 : r < i
          · rw [if_pos d2, if_pos (by omega)]
          · rw [if_neg d2, if_neg (by omega)]
      rw [sg_succ, this, e]
      grind
/-- rows exchanged -/
def ex (M : Mx) (i j : Nat) : Mx := up (up M i (M j)) j (M i)
theorem det_ex_of {k : Nat} {i j : Nat} (hij : i ≠ j) (hi : i < k) (hj : j < k) (al : ∀ M : Mx, M i = M j → det k M = 0) (M : Mx) : det k (ex M i j) = -det k M := by
  have z := al (up (up M i fun c => M i c + M j c) j fun c => M i c + M j c) (by rw [up_at, up_ne hij, up_at])
  rw [det_lin (u := M i) (v := M j) (a := 1) (b := 1) hj (fun c => by omega)] at z
  rw [up_comm hij, up_comm hij] at z
  rw [det_lin (M := up M j (M i)) (u := M i) (v := M j) (a := 1) (b := 1) hi (fun c => by omega), det_lin (M := up M j (M j)) (u := M i) (v := M j) (a := 1) (b := 1) hi (fun c => by omega)] at z
  have a1 := al (up (up M j (M i)) i (M i)) (by rw [up_at, up_ne (fun q => hij q.symm), up_at])
  have a2 := al (up (up M j (M j)) i (M j)) (by rw [up_at, up_ne (fun q => hij q.symm), up_at])
  have a3 : up (up M j (M j)) i (M i) = M := by rw [up_self, up_self]
  have a4 : up (up M j (M i)) i (M j) = ex M i j := by unfold ex; rw [up_comm (fun q => hij q.symm)]
  rw [a1, a2, a3, a4] at z
  omega
theorem det_zero : ∀ (i : Nat) {k : Nat} {M : Mx}, i + 1 < k → M 0 = M (i + 1) → det k M = 0
  | 0, k, M, h, e => det_next h e
  | i + 1, k, M, h, e => by
    have s := det_ex_of (k := k) (i := i + 1) (j := i + 2) (by omega) (by omega) h (fun N hN => det_next h hN) M
    have z := det_zero i (k := k) (M := ex M (i + 1) (i + 2)) (by omega) (by
      unfold ex
      rw [up_ne (by omega), up_ne (by omega), up_ne (by omega), up_at]
      exact e)
    omega
theorem det_ex {k : Nat} {i : Nat} (h : i + 1 < k) (M : Mx) : det k (ex M 0 (i + 1)) = -det k M :=
  det_ex_of (by omega) (by omega) h (fun N hN => det_zero i h hN) M
/-- a row times a number, less a number times the first row -/
theorem det_less {k : Nat} {M : Mx} {i : Nat} {p q : Int} (h : i + 1 < k) : det k (up M (i + 1) fun c => p * M (i + 1) c + q * M 0 c) = p * det k M := by
  rw [det_lin (u := M (i + 1)) (v := M 0) h (fun c => rfl), up_self, det_zero i h (M := up M (i + 1) (M 0)) (by rw [up_at, up_ne (by omega)]), Int.mul_zero, Int.add_zero]
/-- all rows but the first so, up to n of them -/
def els (M : Mx) (n : Nat) : Mx := fun r => if 0 < r ∧ r ≤ n then fun c => M 0 0 * M r c + -M r 0 * M 0 c else M r
theorem det_els {k : Nat} {M : Mx} : ∀ n, n < k → det k (els M n) = M 0 0 ^ n * det k M
  | 0, _ => by
    have : els M 0 = M := by funext r; unfold els; rw [if_neg (by omega)]
    rw [this, Int.pow_zero, Int.one_mul]
  | n + 1, h => by
    have e : els M (n + 1) = up (els M n) (n + 1) fun c => M 0 0 * els M n (n + 1) c + -M (n + 1) 0 * els M n 0 c := by
      have e1 : els M n (n + 1) = M (n + 1) := by unfold els; rw [if_neg (by omega)]
      have e2 : els M n 0 = M 0 := by unfold els; rw [if_neg (by omega)]
      funext r
      by_cases c : r = n + 1
      · subst c; rw [up_at, e1, e2]; unfold els; rw [if_pos (by omega)]
      · rw [up_ne c]; unfold els
        by_cases d : 0 < r ∧ r ≤ n
        · rw [if_pos d, if_pos (by omega)]
        · rw [if_neg d, if_neg (by omega)]
    rw [e, det_less h, det_els n (by omega), Int.pow_succ]
    grind
/-- the table of Chio -/
def ch (M : Mx) : Mx := fun i j => M (i + 1) (j + 1) * M 0 0 - M (i + 1) 0 * M 0 (j + 1)
theorem chio (k : Nat) (M : Mx) : M 0 0 * det k (ch M) = M 0 0 ^ k * det (k + 1) M := by
  have h := det_els (k := k + 1) (M := M) k (by omega)
  rw [← h, det, sm_one (k := 0) _ (by omega) fun i hi hn => ?_]
  · have e0 : els M k 0 = M 0 := by unfold els; rw [if_neg (by omega)]
    rw [e0, show sg 0 = 1 from rfl, Int.one_mul]
    congr 1
    refine det_ext fun i j hi hj => ?_
    unfold ch mi sk els
    rw [if_neg (by omega : ¬ i < 0), if_pos (by omega)]
    grind
  · have : els M k i 0 = 0 := by unfold els; rw [if_pos (by omega)]; grind
    rw [this, Int.zero_mul, Int.mul_zero]
/-- no number in the first column -/
theorem det_none {k : Nat} {M : Mx} (h : ∀ i, i < k + 1 → M i 0 = 0) : det (k + 1) M = 0 := by
  rw [det]
  exact sm_zero _ fun i hi => by rw [h i hi, Int.zero_mul, Int.mul_zero]
theorem det_scale {p : Int} : ∀ {k : Nat} {M N : Mx}, (∀ i j, i < k → j < k → M i j = p * N i j) → det k M = p ^ k * det k N
  | 0, _, _, _ => by simp [det]
  | k + 1, M, N, h => by
    rw [det, det]
    have e : sm (fun i => sg i * (M i 0 * det k (mi i M))) (k + 1) = p ^ (k + 1) * sm (fun i => sg i * (N i 0 * det k (mi i N))) (k + 1) + 0 * sm (fun i => sg i * (N i 0 * det k (mi i N))) (k + 1) := by
      refine sm_lin _ fun i hi => ?_
      rw [h i 0 hi (by omega), det_scale (k := k) (M := mi i M) (N := mi i N) fun r c hr hc => h _ _ (sk_lt hr) (by omega), Int.pow_succ]
      grind
    rw [e]; omega
/-! the law's way: what is left is divided by the last head -/
/-- all minors are times a power -/
def Inv (last : Int) (s : Nat) (B : Mx) : Prop := ∀ (q : Nat) (f h : Nat → Nat), (∀ i, i < q + 1 → f i < s ∧ h i < s) → last ^ q ∣ det (q + 1) fun i j => B (f i) (h j)
theorem inv_one {s : Nat} {B : Mx} : Inv 1 s B := fun q f h _ => ⟨det (q + 1) fun i j => B (f i) (h j), by rw [Int.one_pow, Int.one_mul]⟩
theorem inv_ext {last : Int} {s : Nat} {B C : Mx} (hB : Inv last s B) (e : ∀ i j, i < s → j < s → B i j = C i j) : Inv last s C := fun q f h hf => by
  obtain ⟨w, hw⟩ := hB q f h hf
  refine ⟨w, ?_⟩
  rw [← hw]
  exact det_ext fun i j hi hj => (e _ _ (hf i hi).1 (hf j hj).2).symm
/-- rows in another order -/
theorem inv_perm {last : Int} {s : Nat} {B : Mx} (hB : Inv last s B) (π : Nat → Nat) (hp : ∀ i, i < s → π i < s) : Inv last s fun i => B (π i) :=
  fun q f h hf => hB q (fun i => π (f i)) h fun i hi => ⟨hp _ (hf i hi).1, (hf i hi).2⟩
theorem inv_dvd {last : Int} {s : Nat} {B : Mx} (hB : Inv last (s + 1) B) {i j : Nat} (hi : i < s) (hj : j < s) : last ∣ ch B i j := by
  obtain ⟨w, hw⟩ := hB 1 (fun r => if r = 0 then 0 else i + 1) (fun r => if r = 0 then 0 else j + 1) fun r hr => by split <;> omega
  refine ⟨w, ?_⟩
  rw [Int.pow_one] at hw
  rw [← hw]
  unfold ch
  simp [det, sm, sg, mi, sk]
  grind
theorem inv_step {last : Int} {s : Nat} {B C : Mx} (hl : last ≠ 0) (hB : Inv last (s + 1) B) (hp : B 0 0 ≠ 0) (hC : ∀ i j, i < s → j < s → ch B i j = last * C i j) : Inv (B 0 0) s C := fun q f h hf => by
  obtain ⟨w, hw⟩ := hB (q + 1) (fun r => if r = 0 then 0 else f (r - 1) + 1) (fun r => if r = 0 then 0 else h (r - 1) + 1) fun r hr => by
    by_cases c : r = 0
    · rw [if_pos c, if_pos c]; omega
    · rw [if_neg c, if_neg c]
      have := hf (r - 1) (by omega)
      omega
  have h1 := chio (q + 1) fun i j => B (if i = 0 then 0 else f (i - 1) + 1) (if j = 0 then 0 else h (j - 1) + 1)
  rw [hw] at h1
  have h2 : det (q + 1) (ch fun i j => B (if i = 0 then 0 else f (i - 1) + 1) (if j = 0 then 0 else h (j - 1) + 1)) = last ^ (q + 1) * det (q + 1) fun i j => C (f i) (h j) := by
    refine det_scale fun i j hi hj => ?_
    have := hC (f i) (h j) (hf i hi).1 (hf j hj).2
    rw [← this]
    rfl
  rw [h2] at h1
  refine ⟨w, ?_⟩
  have h3 : B 0 0 * (last ^ (q + 1) * det (q + 1) fun i j => C (f i) (h j)) = B 0 0 ^ (q + 1) * (last ^ (q + 1) * w) := h1
  have h4 : (B 0 0 * last ^ (q + 1)) * det (q + 1) (fun i j => C (f i) (h j)) = (B 0 0 * last ^ (q + 1)) * (B 0 0 ^ q * w) := by
    rw [Int.pow_succ] at h3
    rw [Int.pow_succ (B 0 0)] at h3
    rw [Int.pow_succ last]
    generalize (det (q + 1) fun i j => C (f i) (h j)) = D at *
    generalize B 0 0 ^ q = P at *
    generalize last ^ q = L at *
    grind
  exact Int.eq_of_mul_eq_mul_left (Int.mul_ne_zero hp (Int.pow_ne_zero hl)) h4
/-- and what the whole comes to -/
theorem val_step {last D : Int} {s : Nat} {B C : Mx} (hl : last ≠ 0) (hp : B 0 0 ≠ 0) (hC : ∀ i j, i < s → j < s → ch B i j = last * C i j)
    (hD : det (s + 1) B = D * last ^ s) : B 0 0 * det s C = D * B 0 0 ^ s := by
  have h1 := chio s B
  rw [det_scale (p := last) (N := C) hC, hD] at h1
  have : last ^ s * (B 0 0 * det s C) = last ^ s * (D * B 0 0 ^ s) := by grind
  exact Int.eq_of_mul_eq_mul_left (Int.pow_ne_zero hl) this
end K25

set_option Elab.async false
set_option linter.all false
set_option maxRecDepth 100000
set_option maxHeartbeats 4000000
/-! determinants of tables of expressions: as numbers, as rows; their sizes and lengths -/
namespace K25
def isZ : Ex → Bool
  | .k c => c == 0
  | _ => false
theorem isZ_k {e : Ex} (h : isZ e = true) : e = .k 0 := by
  cases e with
  | k c => exact congrArg Ex.k (by simpa [isZ] using h)
  | v i => cases h
  | add a b => cases h
  | mul a b => cases h
def addS (a b : Ex) : Ex := if isZ a then b else if isZ b then a else .add a b
def smS (f : Nat → Ex) : Nat → Ex
  | 0 => .k 0
  | n + 1 => addS (smS f n) (f n)
abbrev Mz := Nat → Nat → Ex
def miS (i : Nat) (M : Mz) : Mz := fun r c => M (sk i r) (c + 1)
def detS : Nat → Mz → Ex
  | 0, _ => .k 1
  | k + 1, M => smS (fun i => if isZ (M i 0) then .k 0 else .mul (.k (sg i)) (.mul (M i 0) (detS k (miS i M)))) (k + 1)
theorem addS_int (ρ : Nat → Int) (a b : Ex) : (addS a b).int ρ = a.int ρ + b.int ρ := by
  unfold addS
  split
  · rename_i h; rw [isZ_k h]; show _ = 0 + _; omega
  · split
    · rename_i h; rw [isZ_k h]; show _ = _ + (0 : Int); omega
    · rfl
theorem smS_int (ρ : Nat → Int) (f : Nat → Ex) : ∀ n, (smS f n).int ρ = sm (fun i => (f i).int ρ) n
  | 0 => rfl
  | n + 1 => by rw [smS, addS_int, smS_int ρ f n]; rfl
theorem detS_int (ρ : Nat → Int) : ∀ (k : Nat) (M : Mz), (detS k M).int ρ = det k fun i j => (M i j).int ρ
  | 0, _ => rfl
  | k + 1, M => by
    rw [detS, smS_int, det]
    refine sm_ext _ fun i hi => ?_
    split
    · rename_i h
      rw [isZ_k h]
      show (0 : Int) = sg i * (0 * _)
      rw [Int.zero_mul, Int.mul_zero]
    · show sg i * ((M i 0).int ρ * (detS k (miS i M)).int ρ) = _
      rw [detS_int ρ k (miS i M)]
      rfl
/-! sizes -/
def sN (f : Nat → Nat) : Nat → Nat
  | 0 => 0
  | n + 1 => sN f n + f n
def pN (f : Nat → Nat) : Nat → Nat
  | 0 => 1
  | n + 1 => pN f n * f n
theorem sN_le {f h : Nat → Nat} : ∀ n, (∀ i, i < n → f i ≤ h i) → sN f n ≤ sN h n
  | 0, _ => Nat.le_refl _
  | n + 1, e => Nat.add_le_add (sN_le n fun i hi => e i (by omega)) (e n (by omega))
theorem sN_ext {f h : Nat → Nat} : ∀ n, (∀ i, i < n → f i = h i) → sN f n = sN h n
  | 0, _ => rfl
  | n + 1, e => by rw [sN, sN, sN_ext n fun i hi => e i (by omega), e n (by omega)]
theorem pN_ext {f h : Nat → Nat} : ∀ n, (∀ i, i < n → f i = h i) → pN f n = pN h n
  | 0, _ => rfl
  | n + 1, e => by rw [pN, pN, pN_ext n fun i hi => e i (by omega), e n (by omega)]
theorem sN_shift {f : Nat → Nat} : ∀ n, sN f (n + 1) = f 0 + sN (fun c => f (c + 1)) n
  | 0 => by show 0 + f 0 = f 0 + 0; omega
  | n + 1 => by rw [sN, sN_shift n, sN]; omega
theorem sN_mul {f : Nat → Nat} {c : Nat} : ∀ n, sN (fun i => f i * c) n = sN f n * c
  | 0 => by simp [sN]
  | n + 1 => by rw [sN, sN, sN_mul n, Nat.add_mul]
/-- sums of products but for one row -/
theorem prod_le (x U : Nat → Nat) : ∀ n, sN (fun i => x i * pN (fun r => U (sk i r)) n) (n + 1) + pN U (n + 1) ≤ pN (fun i => x i + U i) (n + 1)
  | 0 => by simp [sN, pN]
  | n + 1 => by
    have ih := prod_le x U n
    rw [sN]
    have e1 : sN (fun i => x i * pN (fun r => U (sk i r)) (n + 1)) (n + 1) = sN (fun i => x i * pN (fun r => U (sk i r)) n) (n + 1) * U (n + 1) := by
      rw [← sN_mul]
      refine sN_ext _ fun i hi => ?_
      rw [pN, show sk i n = n + 1 by unfold sk; rw [if_neg (by omega)], Nat.mul_assoc]
    have e2 : pN (fun r => U (sk (n + 1) r)) (n + 1) = pN U (n + 1) := pN_ext _ fun r hr => by unfold sk; rw [if_pos hr]
    rw [e1, e2, pN.eq_def U (n + 1 + 1), pN.eq_def (fun i => x i + U i) (n + 1 + 1)]
    dsimp only
    generalize sN (fun i => x i * pN (fun r => U (sk i r)) n) (n + 1) = A at *
    generalize pN U (n + 1) = B at *
    generalize pN (fun i => x i + U i) (n + 1) = C at *
    have h1 := Nat.mul_le_mul_right (x (n + 1) + U (n + 1)) ih
    have h2 : (A + B) * (x (n + 1) + U (n + 1)) = A * x (n + 1) + A * U (n + 1) + B * x (n + 1) + B * U (n + 1) := by grind
    have h3 : x (n + 1) * B = B * x (n + 1) := Nat.mul_comm ..
    omega
theorem addS_nrm (ρ : Nat → Nat) (a b : Ex) : (addS a b).nrm ρ = a.nrm ρ + b.nrm ρ := by
  unfold addS
  split
  · rename_i h; rw [isZ_k h]; show _ = 0 + _; omega
  · split
    · rename_i h; rw [isZ_k h]; show _ = _ + 0; omega
    · rfl
theorem smS_nrm (ρ : Nat → Nat) (f : Nat → Ex) : ∀ n, (smS f n).nrm ρ = sN (fun i => (f i).nrm ρ) n
  | 0 => rfl
  | n + 1 => by rw [smS, addS_nrm, smS_nrm ρ f n]; rfl
theorem sg_abs (i : Nat) : (sg i).natAbs = 1 := by unfold sg; split <;> rfl
/-- the sum of sizes of row i -/
def rs (ρ : Nat → Nat) (M : Mz) (k i : Nat) : Nat := sN (fun j => (M i j).nrm ρ) k
theorem detS_nrm (ρ : Nat → Nat) : ∀ (k : Nat) (M : Mz), (detS k M).nrm ρ ≤ pN (rs ρ M k) k
  | 0, _ => Nat.le_refl _
  | k + 1, M => by
    rw [detS, smS_nrm]
    have h := prod_le (fun i => (M i 0).nrm ρ) (fun i => sN (fun c => (M i (c + 1)).nrm ρ) k) k
    have e : pN (fun i => (M i 0).nrm ρ + sN (fun c => (M i (c + 1)).nrm ρ) k) (k + 1) = pN (rs ρ M (k + 1)) (k + 1) := pN_ext _ fun i _ => (sN_shift (f := fun j => (M i j).nrm ρ) k).symm
    rw [e] at h
    refine Nat.le_trans (Nat.le_trans ?_ (Nat.le_add_right _ _)) h
    refine sN_le _ fun i hi => ?_
    split
    · exact Nat.zero_le _
    · show (sg i).natAbs * ((M i 0).nrm ρ * (detS k (miS i M)).nrm ρ) ≤ _
      rw [sg_abs, Nat.one_mul]
      exact Nat.mul_le_mul_left _ (detS_nrm ρ k (miS i M))
/-! degrees -/
def Dg (r : List Int) (D : Nat) : Prop := ∀ k, D < k → g r k = 0
theorem Dg.up {r : List Int} {D E : Nat} (h : Dg r D) (e : D ≤ E) : Dg r E := fun k hk => h k (by omega)
theorem Dg.add {r s : List Int} {D : Nat} (h : Dg r D) (e : Dg s D) : Dg (addR r s) D := fun k hk => by rw [g_add, h k hk, e k hk]; rfl
theorem Dg.mul {r s : List Int} {D E : Nat} (h : Dg r D) (e : Dg s E) : Dg (mulR r s) (D + E) := fun k hk => by
  rw [g_mul]
  unfold cv
  have : ∀ n, (∀ i, i < n → g r i * g s (k - i) = 0) → S n (fun i => g r i * g s (k - i)) = 0 := fun n => by
    induction n with
    | zero => intro _; rfl
    | succ n ih => intro z; rw [S, ih fun i hi => z i (by omega), z n (by omega)]; rfl
  refine this _ fun i hi => ?_
  rcases Nat.lt_or_ge D i with c | c
  · rw [h i c, Int.zero_mul]
  · rw [e (k - i) (by omega), Int.mul_zero]
theorem Dg.zero {D : Nat} : Dg (Ex.row ρ (.k 0)) D := fun k hk => by
  show g [0] k = 0
  cases k <;> rfl
theorem Dg.k {c : Int} {D : Nat} : Dg (Ex.row ρ (.k c)) D := fun k hk => by
  show g [c] k = 0
  cases k with
  | zero => omega
  | succ k => rfl
theorem addS_dg {ρ : Nat → List Int} {a b : Ex} {D : Nat} (h : Dg (a.row ρ) D) (e : Dg (b.row ρ) D) : Dg ((addS a b).row ρ) D := by
  unfold addS
  split
  · exact e
  · split
    · exact h
    · exact h.add e
theorem smS_dg {ρ : Nat → List Int} {f : Nat → Ex} {D : Nat} : ∀ n, (∀ i, i < n → Dg ((f i).row ρ) D) → Dg ((smS f n).row ρ) D
  | 0, _ => Dg.k
  | n + 1, h => addS_dg (smS_dg n fun i hi => h i (by omega)) (h n (by omega))
theorem sN_skip (w : Nat → Nat) : ∀ (k i : Nat), i < k + 1 → w i + sN (fun r => w (sk i r)) k = sN w (k + 1)
  | 0, i, h => by
    have : i = 0 := by omega
    subst this
    show w 0 + 0 = 0 + w 0
    omega
  | k + 1, i, h => by
    by_cases c : i = k + 1
    · subst c
      have : sN (fun r => w (sk (k + 1) r)) (k + 1) = sN w (k + 1) := sN_ext _ fun r hr => by unfold sk; rw [if_pos hr]
      rw [this, sN.eq_def w (k + 1 + 1)]
      dsimp only
      omega
    · have ih := sN_skip w k i (by omega)
      rw [sN, sN.eq_def w (k + 1 + 1)]
      dsimp only
      rw [← ih, show sk i k = k + 1 by unfold sk; rw [if_neg (by omega)]]
      omega
theorem detS_dg {ρ : Nat → List Int} {w : Nat → Nat} : ∀ (k : Nat) (M : Mz), (∀ i j, i < k → j < k → Dg ((M i j).row ρ) (w i)) → Dg ((detS k M).row ρ) (sN w k)
  | 0, _, _ => Dg.k
  | k + 1, M, h => by
    rw [detS]
    refine smS_dg _ fun i hi => ?_
    split
    · exact Dg.k
    · have ih := detS_dg (ρ := ρ) (w := fun r => w (sk i r)) k (miS i M) fun r c hr hc => h _ _ (sk_lt hr) (by omega)
      have := Dg.mul (Dg.k (ρ := ρ) (c := sg i) (D := 0)) (Dg.mul (h i 0 hi (by omega)) ih)
      exact this.up (by rw [sN_skip w k i hi]; omega)
/-! Sylvester's table -/
def sy (n m : Nat) : Mz := fun i j =>
  if i < m then (if i ≤ j ∧ j ≤ i + n then .v (n + i - j) else .k 0)
  else (if i - m ≤ j ∧ j ≤ i - m + m then .v (4 + (m + (i - m) - j)) else .k 0)
def RE (n m : Nat) : Ex := detS (n + m) (sy n m)
/-- the same of numbers -/
def syI (n m : Nat) (a b : Nat → Int) : Mx := fun i j =>
  if i < m then (if i ≤ j ∧ j ≤ i + n then a (n + i - j) else 0)
  else (if i - m ≤ j ∧ j ≤ i - m + m then b (m + (i - m) - j) else 0)
def two {α : Type} (a b : Nat → α) : Nat → α := fun i => if i < 4 then a i else b (i - 4)
theorem RE_int {n m : Nat} (h : n ≤ 3) (a b : Nat → Int) : (RE n m).int (two a b) = det (n + m) (syI n m a b) := by
  unfold RE
  rw [detS_int]
  refine det_ext fun i j hi hj => ?_
  unfold sy syI
  by_cases c : i < m
  · rw [if_pos c, if_pos c]
    by_cases d : i ≤ j ∧ j ≤ i + n
    · rw [if_pos d, if_pos d]
      show two a b (n + i - j) = _
      unfold two
      rw [if_pos (by omega)]
    · rw [if_neg d, if_neg d]; rfl
  · rw [if_neg c, if_neg c]
    by_cases d : i - m ≤ j ∧ j ≤ i - m + m
    · rw [if_pos d, if_pos d]
      show two a b (4 + (m + (i - m) - j)) = _
      unfold two
      rw [if_neg (by omega), Nat.add_sub_cancel_left]
    · rw [if_neg d, if_neg d]; rfl
theorem sN_add (f : Nat → Nat) (a : Nat) : ∀ b, sN f (a + b) = sN f a + sN (fun i => f (a + i)) b
  | 0 => rfl
  | b + 1 => by rw [← Nat.add_assoc, sN, sN_add f a b, sN, Nat.add_assoc]
theorem sN_zero {f : Nat → Nat} : ∀ n, (∀ i, i < n → f i = 0) → sN f n = 0
  | 0, _ => rfl
  | n + 1, e => by rw [sN, sN_zero n fun i hi => e i (by omega), e n (by omega)]
theorem sN_rev (φ : Nat → Nat) : ∀ n, sN (fun i => φ (n - i)) (n + 1) = sN φ (n + 1)
  | 0 => rfl
  | n + 1 => by
    rw [sN_shift, sN.eq_def φ (n + 1 + 1)]
    dsimp only
    rw [← sN_rev φ n]
    have : sN (fun c => φ (n + 1 - (c + 1))) (n + 1) = sN (fun i => φ (n - i)) (n + 1) := sN_ext _ fun i _ => by rw [Nat.add_sub_add_right]
    rw [this, Nat.sub_zero]
    omega
/-- a band's sum -/
theorem band (φ : Nat → Nat) {n k t : Nat} {f : Nat → Nat} (hf : ∀ j, f j = if k ≤ j ∧ j ≤ k + n then φ (n + k - j) else 0) : sN f (k + (n + 1) + t) = sN φ (n + 1) := by
  rw [sN_add, sN_add, sN_zero k fun i hi => by rw [hf, if_neg (by omega)], sN_zero t fun i hi => by rw [hf, if_neg (by omega)], ← sN_rev φ n, Nat.zero_add, Nat.add_zero]
  exact sN_ext _ fun i hi => by rw [hf, if_pos (by omega), show n + k - (k + i) = n - i by omega]
theorem pN_two {f : Nat → Nat} {A B : Nat} {n m : Nat} (hA : ∀ i, i < m → f i = A) (hB : ∀ i, m ≤ i → i < m + n → f i = B) : pN f (m + n) = A ^ m * B ^ n := by
  induction n with
  | zero =>
    rw [Nat.pow_zero, Nat.mul_one, Nat.add_zero]
    clear hB
    induction m with
    | zero => rfl
    | succ m ih => rw [pN, ih fun i hi => hA i (by omega), hA m (by omega), Nat.pow_succ]
  | succ n ih => rw [← Nat.add_assoc, pN, ih fun i h1 h2 => hB i h1 (by omega), hB (m + n) (by omega) (by omega), Nat.pow_succ, Nat.mul_assoc]
theorem sN_two {f : Nat → Nat} {A B : Nat} {n m : Nat} (hA : ∀ i, i < m → f i = A) (hB : ∀ i, m ≤ i → i < m + n → f i = B) : sN f (m + n) = m * A + n * B := by
  induction n with
  | zero =>
    rw [Nat.zero_mul, Nat.add_zero, Nat.add_zero]
    clear hB
    induction m with
    | zero => rw [Nat.zero_mul]; rfl
    | succ m ih => rw [sN, ih fun i hi => hA i (by omega), hA m (by omega), Nat.add_mul, Nat.one_mul]
  | succ n ih => rw [← Nat.add_assoc, sN, ih fun i h1 h2 => hB i h1 (by omega), hB (m + n) (by omega) (by omega), Nat.add_mul, Nat.one_mul]; omega
theorem RE_nrm {n m : Nat} (h : n ≤ 3) (a b : Nat → Nat) : (RE n m).nrm (two a b) ≤ sN a (n + 1) ^ m * sN b (m + 1) ^ n := by
  unfold RE
  refine Nat.le_trans (detS_nrm _ _ _) (Nat.le_of_eq ?_)
  rw [Nat.add_comm n m]
  refine pN_two (fun i hi => ?_) (fun i h1 h2 => ?_)
  · unfold rs
    rw [show m + n = i + (n + 1) + (m - 1 - i) by omega]
    refine band a fun j => ?_
    unfold sy
    rw [if_pos hi]
    by_cases d : i ≤ j ∧ j ≤ i + n
    · rw [if_pos d, if_pos d]
      show two a b (n + i - j) = _
      unfold two
      rw [if_pos (by omega)]
    · rw [if_neg d, if_neg d]; rfl
  · unfold rs
    rw [show m + n = (i - m) + (m + 1) + (n - 1 - (i - m)) by omega]
    refine band b fun j => ?_
    unfold sy
    rw [if_neg (by omega)]
    by_cases d : i - m ≤ j ∧ j ≤ i - m + m
    · rw [if_pos d, if_pos d]
      show two a b (4 + (m + (i - m) - j)) = _
      unfold two
      rw [if_neg (by omega), Nat.add_sub_cancel_left]
    · rw [if_neg d, if_neg d]; rfl
theorem RE_dg {n m : Nat} (h : n ≤ 3) {a b : Nat → List Int} {A B : Nat} (hA : ∀ i, Dg (a i) A) (hB : ∀ i, Dg (b i) B) : Dg ((RE n m).row (two a b)) (m * A + n * B) := by
  have key := detS_dg (ρ := two a b) (w := fun i => if i < m then A else B) (n + m) (sy n m) fun i j hi hj => by
    unfold sy
    by_cases c : i < m
    · rw [if_pos c, if_pos c]
      split
      · show Dg (two a b _) _
        unfold two
        rw [if_pos (by omega)]
        exact hA _
      · exact Dg.zero
    · rw [if_neg c, if_neg c]
      split
      · show Dg (two a b _) _
        unfold two
        rw [if_neg (by omega)]
        exact hB _
      · exact Dg.zero
  rw [Nat.add_comm n m, sN_two (A := A) (B := B) (fun i hi => if_pos hi) (fun i h1 h2 => if_neg (by omega))] at key
  unfold RE
  rw [Nat.add_comm n m]
  exact key
end K25

set_option Elab.async false
set_option linter.all false
set_option maxRecDepth 100000
set_option maxHeartbeats 4000000
/-! the resultants of degrees up to 3, written out -/
namespace K25
def R00 (a0 b0 : Int) : Int := 1
theorem RE00 : RE 0 0 = (.k 1) := rfl
theorem res00 (a b : Nat → Int) : det (0 + 0) (syI 0 0 a b) = R00 (a 0) (b 0) := by
  rw [← RE_int (by decide), RE00]
  simp only [Ex.int, two, Nat.reduceLT, Nat.reduceSub, if_true, if_false, ite_true, ite_false, reduceIte]
  unfold R00
  grind
def R01 (a0 b0 b1 : Int) : Int := a0
theorem RE01 : RE 0 1 = (.mul (.k 1) (.mul (.v 0) (.k 1))) := rfl
theorem res01 (a b : Nat → Int) : det (0 + 1) (syI 0 1 a b) = R01 (a 0) (b 0) (b 1) := by
  rw [← RE_int (by decide), RE01]
  simp only [Ex.int, two, Nat.reduceLT, Nat.reduceSub, if_true, if_false, ite_true, ite_false, reduceIte]
  unfold R01
  grind
def R02 (a0 b0 b1 b2 : Int) : Int := a0^2
theorem RE02 : RE 0 2 = (.mul (.k 1) (.mul (.v 0) (.mul (.k 1) (.mul (.v 0) (.k 1))))) := rfl
theorem res02 (a b : Nat → Int) : det (0 + 2) (syI 0 2 a b) = R02 (a 0) (b 0) (b 1) (b 2) := by
  rw [← RE_int (by decide), RE02]
  simp only [Ex.int, two, Nat.reduceLT, Nat.reduceSub, if_true, if_false, ite_true, ite_false, reduceIte]
  unfold R02
  grind
def R03 (a0 b0 b1 b2 b3 : Int) : Int := a0^3
theorem RE03 : RE 0 3 = (.mul (.k 1) (.mul (.v 0) (.mul (.k 1) (.mul (.v 0) (.mul (.k 1) (.mul (.v 0) (.k 1))))))) := rfl
theorem res03 (a b : Nat → Int) : det (0 + 3) (syI 0 3 a b) = R03 (a 0) (b 0) (b 1) (b 2) (b 3) := by
  rw [← RE_int (by decide), RE03]
  simp only [Ex.int, two, Nat.reduceLT, Nat.reduceSub, if_true, if_false, ite_true, ite_false, reduceIte]
  unfold R03
  grind
def R10 (a0 a1 b0 : Int) : Int := b0
theorem RE10 : RE 1 0 = (.mul (.k 1) (.mul (.v 4) (.k 1))) := rfl
theorem res10 (a b : Nat → Int) : det (1 + 0) (syI 1 0 a b) = R10 (a 0) (a 1) (b 0) := by
  rw [← RE_int (by decide), RE10]
  simp only [Ex.int, two, Nat.reduceLT, Nat.reduceSub, if_true, if_false, ite_true, ite_false, reduceIte]
  unfold R10
  grind
def R11 (a0 a1 b0 b1 : Int) : Int := -a0*b1 + a1*b0
theorem RE11 : RE 1 1 = (.add (.mul (.k 1) (.mul (.v 1) (.mul (.k 1) (.mul (.v 4) (.k 1))))) (.mul (.k (-1)) (.mul (.v 5) (.mul (.k 1) (.mul (.v 0) (.k 1)))))) := rfl
theorem res11 (a b : Nat → Int) : det (1 + 1) (syI 1 1 a b) = R11 (a 0) (a 1) (b 0) (b 1) := by
  rw [← RE_int (by decide), RE11]
  simp only [Ex.int, two, Nat.reduceLT, Nat.reduceSub, if_true, if_false, ite_true, ite_false, reduceIte]
  unfold R11
  grind
def R12 (a0 a1 b0 b1 b2 : Int) : Int := a0^2*b2 - a0*a1*b1 + a1^2*b0
theorem RE12 : RE 1 2 = (.add (.mul (.k 1) (.mul (.v 1) (.add (.mul (.k 1) (.mul (.v 1) (.mul (.k 1) (.mul (.v 4) (.k 1))))) (.mul (.k (-1)) (.mul (.v 5) (.mul (.k 1) (.mul (.v 0) (.k 1)))))))) (.mul (.k 1) (.mul (.v 6) (.add (.mul (.k 1) (.mul (.v 0) (.mul (.k 1) (.mul (.v 0) (.k 1))))) (.mul (.k (-1)) (.mul (.v 1) (.k 0))))))) := rfl
theorem res12 (a b : Nat → Int) : det (1 + 2) (syI 1 2 a b) = R12 (a 0) (a 1) (b 0) (b 1) (b 2) := by
  rw [← RE_int (by decide), RE12]
  simp only [Ex.int, two, Nat.reduceLT, Nat.reduceSub, if_true, if_false, ite_true, ite_false, reduceIte]
  unfold R12
  grind
def R13 (a0 a1 b0 b1 b2 b3 : Int) : Int := -a0^3*b3 + a0^2*a1*b2 - a0*a1^2*b1 + a1^3*b0
theorem RE13 : RE 1 3 = (.add (.mul (.k 1) (.mul (.v 1) (.add (.mul (.k 1) (.mul (.v 1) (.add (.mul (.k 1) (.mul (.v 1) (.mul (.k 1) (.mul (.v 4) (.k 1))))) (.mul (.k (-1)) (.mul (.v 5) (.mul (.k 1) (.mul (.v 0) (.k 1)))))))) (.mul (.k 1) (.mul (.v 6) (.add (.mul (.k 1) (.mul (.v 0) (.mul (.k 1) (.mul (.v 0) (.k 1))))) (.mul (.k (-1)) (.mul (.v 1) (.k 0))))))))) (.mul (.k (-1)) (.mul (.v 7) (.add (.mul (.k 1) (.mul (.v 0) (.add (.mul (.k 1) (.mul (.v 0) (.mul (.k 1) (.mul (.v 0) (.k 1))))) (.mul (.k (-1)) (.mul (.v 1) (.k 0)))))) (.mul (.k (-1)) (.mul (.v 1) (.mul (.k (-1)) (.mul (.v 1) (.k 0))))))))) := rfl
theorem res13 (a b : Nat → Int) : det (1 + 3) (syI 1 3 a b) = R13 (a 0) (a 1) (b 0) (b 1) (b 2) (b 3) := by
  rw [← RE_int (by decide), RE13]
  simp only [Ex.int, two, Nat.reduceLT, Nat.reduceSub, if_true, if_false, ite_true, ite_false, reduceIte]
  unfold R13
  grind
def R20 (a0 a1 a2 b0 : Int) : Int := b0^2
theorem RE20 : RE 2 0 = (.mul (.k 1) (.mul (.v 4) (.mul (.k 1) (.mul (.v 4) (.k 1))))) := rfl
theorem res20 (a b : Nat → Int) : det (2 + 0) (syI 2 0 a b) = R20 (a 0) (a 1) (a 2) (b 0) := by
  rw [← RE_int (by decide), RE20]
  simp only [Ex.int, two, Nat.reduceLT, Nat.reduceSub, if_true, if_false, ite_true, ite_false, reduceIte]
  unfold R20
  grind
def R21 (a0 a1 a2 b0 b1 : Int) : Int := a0*b1^2 - a1*b0*b1 + a2*b0^2
theorem RE21 : RE 2 1 = (.add (.mul (.k 1) (.mul (.v 2) (.add (.mul (.k 1) (.mul (.v 4) (.mul (.k 1) (.mul (.v 4) (.k 1))))) (.mul (.k (-1)) (.mul (.v 5) (.k 0)))))) (.mul (.k (-1)) (.mul (.v 5) (.add (.mul (.k 1) (.mul (.v 1) (.mul (.k 1) (.mul (.v 4) (.k 1))))) (.mul (.k (-1)) (.mul (.v 5) (.mul (.k 1) (.mul (.v 0) (.k 1))))))))) := rfl
theorem res21 (a b : Nat → Int) : det (2 + 1) (syI 2 1 a b) = R21 (a 0) (a 1) (a 2) (b 0) (b 1) := by
  rw [← RE_int (by decide), RE21]
  simp only [Ex.int, two, Nat.reduceLT, Nat.reduceSub, if_true, if_false, ite_true, ite_false, reduceIte]
  unfold R21
  grind
def R22 (a0 a1 a2 b0 b1 b2 : Int) : Int := a0^2*b2^2 - a0*a1*b1*b2 - 2*a0*a2*b0*b2 + a0*a2*b1^2 + a1^2*b0*b2 - a1*a2*b0*b1 + a2^2*b0^2
theorem RE22 : RE 2 2 = (.add (.mul (.k 1) (.mul (.v 2) (.add (.add (.mul (.k 1) (.mul (.v 2) (.add (.mul (.k 1) (.mul (.v 4) (.mul (.k 1) (.mul (.v 4) (.k 1))))) (.mul (.k (-1)) (.mul (.v 5) (.k 0)))))) (.mul (.k (-1)) (.mul (.v 5) (.add (.mul (.k 1) (.mul (.v 1) (.mul (.k 1) (.mul (.v 4) (.k 1))))) (.mul (.k (-1)) (.mul (.v 5) (.mul (.k 1) (.mul (.v 0) (.k 1))))))))) (.mul (.k 1) (.mul (.v 6) (.add (.mul (.k 1) (.mul (.v 1) (.k 0))) (.mul (.k (-1)) (.mul (.v 4) (.mul (.k 1) (.mul (.v 0) (.k 1))))))))))) (.mul (.k 1) (.mul (.v 6) (.add (.add (.mul (.k 1) (.mul (.v 1) (.add (.mul (.k 1) (.mul (.v 1) (.mul (.k 1) (.mul (.v 4) (.k 1))))) (.mul (.k (-1)) (.mul (.v 5) (.mul (.k 1) (.mul (.v 0) (.k 1)))))))) (.mul (.k (-1)) (.mul (.v 2) (.add (.mul (.k 1) (.mul (.v 0) (.mul (.k 1) (.mul (.v 4) (.k 1))))) (.mul (.k (-1)) (.mul (.v 5) (.k 0))))))) (.mul (.k 1) (.mul (.v 6) (.add (.mul (.k 1) (.mul (.v 0) (.mul (.k 1) (.mul (.v 0) (.k 1))))) (.mul (.k (-1)) (.mul (.v 1) (.k 0)))))))))) := rfl
theorem res22 (a b : Nat → Int) : det (2 + 2) (syI 2 2 a b) = R22 (a 0) (a 1) (a 2) (b 0) (b 1) (b 2) := by
  rw [← RE_int (by decide), RE22]
  simp only [Ex.int, two, Nat.reduceLT, Nat.reduceSub, if_true, if_false, ite_true, ite_false, reduceIte]
  unfold R22
  grind
def R23 (a0 a1 a2 b0 b1 b2 b3 : Int) : Int := a0^3*b3^2 - a0^2*a1*b2*b3 - 2*a0^2*a2*b1*b3 + a0^2*a2*b2^2 + a0*a1^2*b1*b3 + 3*a0*a1*a2*b0*b3 - a0*a1*a2*b1*b2 - 2*a0*a2^2*b0*b2 + a0*a2^2*b1^2 - a1^3*b0*b3 + a1^2*a2*b0*b2 - a1*a2^2*b0*b1 + a2^3*b0^2
theorem RE23 : RE 2 3 = (.add (.mul (.k 1) (.mul (.v 2) (.add (.add (.mul (.k 1) (.mul (.v 2) (.add (.add (.mul (.k 1) (.mul (.v 2) (.add (.mul (.k 1) (.mul (.v 4) (.mul (.k 1) (.mul (.v 4) (.k 1))))) (.mul (.k (-1)) (.mul (.v 5) (.k 0)))))) (.mul (.k (-1)) (.mul (.v 5) (.add (.mul (.k 1) (.mul (.v 1) (.mul (.k 1) (.mul (.v 4) (.k 1))))) (.mul (.k (-1)) (.mul (.v 5) (.mul (.k 1) (.mul (.v 0) (.k 1))))))))) (.mul (.k 1) (.mul (.v 6) (.add (.mul (.k 1) (.mul (.v 1) (.k 0))) (.mul (.k (-1)) (.mul (.v 4) (.mul (.k 1) (.mul (.v 0) (.k 1))))))))))) (.mul (.k 1) (.mul (.v 6) (.add (.add (.mul (.k 1) (.mul (.v 1) (.add (.mul (.k 1) (.mul (.v 1) (.mul (.k 1) (.mul (.v 4) (.k 1))))) (.mul (.k (-1)) (.mul (.v 5) (.mul (.k 1) (.mul (.v 0) (.k 1)))))))) (.mul (.k (-1)) (.mul (.v 2) (.add (.mul (.k 1) (.mul (.v 0) (.mul (.k 1) (.mul (.v 4) (.k 1))))) (.mul (.k (-1)) (.mul (.v 5) (.k 0))))))) (.mul (.k 1) (.mul (.v 6) (.add (.mul (.k 1) (.mul (.v 0) (.mul (.k 1) (.mul (.v 0) (.k 1))))) (.mul (.k (-1)) (.mul (.v 1) (.k 0)))))))))) (.mul (.k (-1)) (.mul (.v 7) (.add (.add (.mul (.k 1) (.mul (.v 1) (.add (.mul (.k 1) (.mul (.v 1) (.k 0))) (.mul (.k (-1)) (.mul (.v 4) (.mul (.k 1) (.mul (.v 0) (.k 1)))))))) (.mul (.k (-1)) (.mul (.v 2) (.add (.mul (.k 1) (.mul (.v 0) (.k 0))) (.mul (.k (-1)) (.mul (.v 4) (.k 0))))))) (.mul (.k 1) (.mul (.v 5) (.add (.mul (.k 1) (.mul (.v 0) (.mul (.k 1) (.mul (.v 0) (.k 1))))) (.mul (.k (-1)) (.mul (.v 1) (.k 0)))))))))))) (.mul (.k (-1)) (.mul (.v 7) (.add (.add (.mul (.k 1) (.mul (.v 1) (.add (.add (.mul (.k 1) (.mul (.v 1) (.add (.mul (.k 1) (.mul (.v 1) (.mul (.k 1) (.mul (.v 4) (.k 1))))) (.mul (.k (-1)) (.mul (.v 5) (.mul (.k 1) (.mul (.v 0) (.k 1)))))))) (.mul (.k (-1)) (.mul (.v 2) (.add (.mul (.k 1) (.mul (.v 0) (.mul (.k 1) (.mul (.v 4) (.k 1))))) (.mul (.k (-1)) (.mul (.v 5) (.k 0))))))) (.mul (.k 1) (.mul (.v 6) (.add (.mul (.k 1) (.mul (.v 0) (.mul (.k 1) (.mul (.v 0) (.k 1))))) (.mul (.k (-1)) (.mul (.v 1) (.k 0))))))))) (.mul (.k (-1)) (.mul (.v 2) (.add (.add (.mul (.k 1) (.mul (.v 0) (.add (.mul (.k 1) (.mul (.v 1) (.mul (.k 1) (.mul (.v 4) (.k 1))))) (.mul (.k (-1)) (.mul (.v 5) (.mul (.k 1) (.mul (.v 0) (.k 1)))))))) (.mul (.k (-1)) (.mul (.v 2) (.mul (.k (-1)) (.mul (.v 5) (.k 0)))))) (.mul (.k 1) (.mul (.v 6) (.mul (.k (-1)) (.mul (.v 1) (.k 0))))))))) (.mul (.k (-1)) (.mul (.v 7) (.add (.add (.mul (.k 1) (.mul (.v 0) (.add (.mul (.k 1) (.mul (.v 0) (.mul (.k 1) (.mul (.v 0) (.k 1))))) (.mul (.k (-1)) (.mul (.v 1) (.k 0)))))) (.mul (.k (-1)) (.mul (.v 1) (.mul (.k (-1)) (.mul (.v 1) (.k 0)))))) (.mul (.k 1) (.mul (.v 2) (.mul (.k (-1)) (.mul (.v 0) (.k 0)))))))))))) := rfl
theorem res23 (a b : Nat → Int) : det (2 + 3) (syI 2 3 a b) = R23 (a 0) (a 1) (a 2) (b 0) (b 1) (b 2) (b 3) := by
  rw [← RE_int (by decide), RE23]
  simp only [Ex.int, two, Nat.reduceLT, Nat.reduceSub, if_true, if_false, ite_true, ite_false, reduceIte]
  unfold R23
  grind
def R30 (a0 a1 a2 a3 b0 : Int) : Int := b0^3
theorem RE30 : RE 3 0 = (.mul (.k 1) (.mul (.v 4) (.mul (.k 1) (.mul (.v 4) (.mul (.k 1) (.mul (.v 4) (.k 1))))))) := rfl
theorem res30 (a b : Nat → Int) : det (3 + 0) (syI 3 0 a b) = R30 (a 0) (a 1) (a 2) (a 3) (b 0) := by
  rw [← RE_int (by decide), RE30]
  simp only [Ex.int, two, Nat.reduceLT, Nat.reduceSub, if_true, if_false, ite_true, ite_false, reduceIte]
  unfold R30
  grind
def R31 (a0 a1 a2 a3 b0 b1 : Int) : Int := -a0*b1^3 + a1*b0*b1^2 - a2*b0^2*b1 + a3*b0^3
theorem RE31 : RE 3 1 = (.add (.mul (.k 1) (.mul (.v 3) (.add (.mul (.k 1) (.mul (.v 4) (.add (.mul (.k 1) (.mul (.v 4) (.mul (.k 1) (.mul (.v 4) (.k 1))))) (.mul (.k (-1)) (.mul (.v 5) (.k 0)))))) (.mul (.k (-1)) (.mul (.v 5) (.mul (.k (-1)) (.mul (.v 5) (.k 0)))))))) (.mul (.k (-1)) (.mul (.v 5) (.add (.mul (.k 1) (.mul (.v 2) (.add (.mul (.k 1) (.mul (.v 4) (.mul (.k 1) (.mul (.v 4) (.k 1))))) (.mul (.k (-1)) (.mul (.v 5) (.k 0)))))) (.mul (.k (-1)) (.mul (.v 5) (.add (.mul (.k 1) (.mul (.v 1) (.mul (.k 1) (.mul (.v 4) (.k 1))))) (.mul (.k (-1)) (.mul (.v 5) (.mul (.k 1) (.mul (.v 0) (.k 1)))))))))))) := rfl
theorem res31 (a b : Nat → Int) : det (3 + 1) (syI 3 1 a b) = R31 (a 0) (a 1) (a 2) (a 3) (b 0) (b 1) := by
  rw [← RE_int (by decide), RE31]
  simp only [Ex.int, two, Nat.reduceLT, Nat.reduceSub, if_true, if_false, ite_true, ite_false, reduceIte]
  unfold R31
  grind
def R32 (a0 a1 a2 a3 b0 b1 b2 : Int) : Int := a0^2*b2^3 - a0*a1*b1*b2^2 - 2*a0*a2*b0*b2^2 + a0*a2*b1^2*b2 + 3*a0*a3*b0*b1*b2 - a0*a3*b1^3 + a1^2*b0*b2^2 - a1*a2*b0*b1*b2 - 2*a1*a3*b0^2*b2 + a1*a3*b0*b1^2 + a2^2*b0^2*b2 - a2*a3*b0^2*b1 + a3^2*b0^3
theorem RE32 : RE 3 2 = (.add (.mul (.k 1) (.mul (.v 3) (.add (.add (.mul (.k 1) (.mul (.v 3) (.add (.add (.mul (.k 1) (.mul (.v 4) (.add (.mul (.k 1) (.mul (.v 4) (.mul (.k 1) (.mul (.v 4) (.k 1))))) (.mul (.k (-1)) (.mul (.v 5) (.k 0)))))) (.mul (.k (-1)) (.mul (.v 5) (.mul (.k (-1)) (.mul (.v 5) (.k 0)))))) (.mul (.k 1) (.mul (.v 6) (.mul (.k (-1)) (.mul (.v 4) (.k 0)))))))) (.mul (.k (-1)) (.mul (.v 5) (.add (.add (.mul (.k 1) (.mul (.v 2) (.add (.mul (.k 1) (.mul (.v 4) (.mul (.k 1) (.mul (.v 4) (.k 1))))) (.mul (.k (-1)) (.mul (.v 5) (.k 0)))))) (.mul (.k (-1)) (.mul (.v 5) (.add (.mul (.k 1) (.mul (.v 1) (.mul (.k 1) (.mul (.v 4) (.k 1))))) (.mul (.k (-1)) (.mul (.v 5) (.mul (.k 1) (.mul (.v 0) (.k 1))))))))) (.mul (.k 1) (.mul (.v 6) (.add (.mul (.k 1) (.mul (.v 1) (.k 0))) (.mul (.k (-1)) (.mul (.v 4) (.mul (.k 1) (.mul (.v 0) (.k 1)))))))))))) (.mul (.k 1) (.mul (.v 6) (.add (.add (.mul (.k 1) (.mul (.v 2) (.mul (.k (-1)) (.mul (.v 5) (.k 0))))) (.mul (.k (-1)) (.mul (.v 4) (.add (.mul (.k 1) (.mul (.v 1) (.mul (.k 1) (.mul (.v 4) (.k 1))))) (.mul (.k (-1)) (.mul (.v 5) (.mul (.k 1) (.mul (.v 0) (.k 1))))))))) (.mul (.k 1) (.mul (.v 6) (.mul (.k 1) (.mul (.v 1) (.k 0))))))))))) (.mul (.k 1) (.mul (.v 6) (.add (.add (.mul (.k 1) (.mul (.v 2) (.add (.add (.mul (.k 1) (.mul (.v 2) (.add (.mul (.k 1) (.mul (.v 4) (.mul (.k 1) (.mul (.v 4) (.k 1))))) (.mul (.k (-1)) (.mul (.v 5) (.k 0)))))) (.mul (.k (-1)) (.mul (.v 5) (.add (.mul (.k 1) (.mul (.v 1) (.mul (.k 1) (.mul (.v 4) (.k 1))))) (.mul (.k (-1)) (.mul (.v 5) (.mul (.k 1) (.mul (.v 0) (.k 1))))))))) (.mul (.k 1) (.mul (.v 6) (.add (.mul (.k 1) (.mul (.v 1) (.k 0))) (.mul (.k (-1)) (.mul (.v 4) (.mul (.k 1) (.mul (.v 0) (.k 1))))))))))) (.mul (.k (-1)) (.mul (.v 3) (.add (.add (.mul (.k 1) (.mul (.v 1) (.add (.mul (.k 1) (.mul (.v 4) (.mul (.k 1) (.mul (.v 4) (.k 1))))) (.mul (.k (-1)) (.mul (.v 5) (.k 0)))))) (.mul (.k (-1)) (.mul (.v 5) (.add (.mul (.k 1) (.mul (.v 0) (.mul (.k 1) (.mul (.v 4) (.k 1))))) (.mul (.k (-1)) (.mul (.v 5) (.k 0))))))) (.mul (.k 1) (.mul (.v 6) (.add (.mul (.k 1) (.mul (.v 0) (.k 0))) (.mul (.k (-1)) (.mul (.v 4) (.k 0)))))))))) (.mul (.k 1) (.mul (.v 6) (.add (.add (.mul (.k 1) (.mul (.v 1) (.add (.mul (.k 1) (.mul (.v 1) (.mul (.k 1) (.mul (.v 4) (.k 1))))) (.mul (.k (-1)) (.mul (.v 5) (.mul (.k 1) (.mul (.v 0) (.k 1)))))))) (.mul (.k (-1)) (.mul (.v 2) (.add (.mul (.k 1) (.mul (.v 0) (.mul (.k 1) (.mul (.v 4) (.k 1))))) (.mul (.k (-1)) (.mul (.v 5) (.k 0))))))) (.mul (.k 1) (.mul (.v 6) (.add (.mul (.k 1) (.mul (.v 0) (.mul (.k 1) (.mul (.v 0) (.k 1))))) (.mul (.k (-1)) (.mul (.v 1) (.k 0))))))))))))) := rfl
theorem res32 (a b : Nat → Int) : det (3 + 2) (syI 3 2 a b) = R32 (a 0) (a 1) (a 2) (a 3) (b 0) (b 1) (b 2) := by
  rw [← RE_int (by decide), RE32]
  simp only [Ex.int, two, Nat.reduceLT, Nat.reduceSub, if_true, if_false, ite_true, ite_false, reduceIte]
  unfold R32
  grind
def R33 (a0 a1 a2 a3 b0 b1 b2 b3 : Int) : Int := -a0^3*b3^3 + a0^2*a1*b2*b3^2 + 2*a0^2*a2*b1*b3^2 - a0^2*a2*b2^2*b3 + 3*a0^2*a3*b0*b3^2 - 3*a0^2*a3*b1*b2*b3 + a0^2*a3*b2^3 - a0*a1^2*b1*b3^2 - 3*a0*a1*a2*b0*b3^2 + a0*a1*a2*b1*b2*b3 + a0*a1*a3*b0*b2*b3 + 2*a0*a1*a3*b1^2*b3 - a0*a1*a3*b1*b2^2 + 2*a0*a2^2*b0*b2*b3 - a0*a2^2*b1^2*b3 - a0*a2*a3*b0*b1*b3 - 2*a0*a2*a3*b0*b2^2 + a0*a2*a3*b1^2*b2 - 3*a0*a3^2*b0^2*b3 + 3*a0*a3^2*b0*b1*b2 - a0*a3^2*b1^3 + a1^3*b0*b3^2 - a1^2*a2*b0*b2*b3 - 2*a1^2*a3*b0*b1*b3 + a1^2*a3*b0*b2^2 + a1*a2^2*b0*b1*b3 + 3*a1*a2*a3*b0^2*b3 - a1*a2*a3*b0*b1*b2 - 2*a1*a3^2*b0^2*b2 + a1*a3^2*b0*b1^2 - a2^3*b0^2*b3 + a2^2*a3*b0^2*b2 - a2*a3^2*b0^2*b1 + a3^3*b0^3
theorem RE33 : RE 3 3 = (.add (.mul (.k 1) (.mul (.v 3) (.add (.add (.mul (.k 1) (.mul (.v 3) (.add (.add (.add (.mul (.k 1) (.mul (.v 3) (.add (.add (.mul (.k 1) (.mul (.v 4) (.add (.mul (.k 1) (.mul (.v 4) (.mul (.k 1) (.mul (.v 4) (.k 1))))) (.mul (.k (-1)) (.mul (.v 5) (.k 0)))))) (.mul (.k (-1)) (.mul (.v 5) (.mul (.k (-1)) (.mul (.v 5) (.k 0)))))) (.mul (.k 1) (.mul (.v 6) (.mul (.k (-1)) (.mul (.v 4) (.k 0)))))))) (.mul (.k (-1)) (.mul (.v 5) (.add (.add (.mul (.k 1) (.mul (.v 2) (.add (.mul (.k 1) (.mul (.v 4) (.mul (.k 1) (.mul (.v 4) (.k 1))))) (.mul (.k (-1)) (.mul (.v 5) (.k 0)))))) (.mul (.k (-1)) (.mul (.v 5) (.add (.mul (.k 1) (.mul (.v 1) (.mul (.k 1) (.mul (.v 4) (.k 1))))) (.mul (.k (-1)) (.mul (.v 5) (.mul (.k 1) (.mul (.v 0) (.k 1))))))))) (.mul (.k 1) (.mul (.v 6) (.add (.mul (.k 1) (.mul (.v 1) (.k 0))) (.mul (.k (-1)) (.mul (.v 4) (.mul (.k 1) (.mul (.v 0) (.k 1)))))))))))) (.mul (.k 1) (.mul (.v 6) (.add (.add (.mul (.k 1) (.mul (.v 2) (.mul (.k (-1)) (.mul (.v 5) (.k 0))))) (.mul (.k (-1)) (.mul (.v 4) (.add (.mul (.k 1) (.mul (.v 1) (.mul (.k 1) (.mul (.v 4) (.k 1))))) (.mul (.k (-1)) (.mul (.v 5) (.mul (.k 1) (.mul (.v 0) (.k 1))))))))) (.mul (.k 1) (.mul (.v 6) (.mul (.k 1) (.mul (.v 1) (.k 0))))))))) (.mul (.k (-1)) (.mul (.v 7) (.add (.add (.mul (.k 1) (.mul (.v 2) (.mul (.k (-1)) (.mul (.v 4) (.k 0))))) (.mul (.k (-1)) (.mul (.v 4) (.add (.mul (.k 1) (.mul (.v 1) (.k 0))) (.mul (.k (-1)) (.mul (.v 4) (.mul (.k 1) (.mul (.v 0) (.k 1))))))))) (.mul (.k 1) (.mul (.v 5) (.mul (.k 1) (.mul (.v 1) (.k 0))))))))))) (.mul (.k 1) (.mul (.v 6) (.add (.add (.add (.mul (.k 1) (.mul (.v 2) (.add (.add (.mul (.k 1) (.mul (.v 2) (.add (.mul (.k 1) (.mul (.v 4) (.mul (.k 1) (.mul (.v 4) (.k 1))))) (.mul (.k (-1)) (.mul (.v 5) (.k 0)))))) (.mul (.k (-1)) (.mul (.v 5) (.add (.mul (.k 1) (.mul (.v 1) (.mul (.k 1) (.mul (.v 4) (.k 1))))) (.mul (.k (-1)) (.mul (.v 5) (.mul (.k 1) (.mul (.v 0) (.k 1))))))))) (.mul (.k 1) (.mul (.v 6) (.add (.mul (.k 1) (.mul (.v 1) (.k 0))) (.mul (.k (-1)) (.mul (.v 4) (.mul (.k 1) (.mul (.v 0) (.k 1))))))))))) (.mul (.k (-1)) (.mul (.v 3) (.add (.add (.mul (.k 1) (.mul (.v 1) (.add (.mul (.k 1) (.mul (.v 4) (.mul (.k 1) (.mul (.v 4) (.k 1))))) (.mul (.k (-1)) (.mul (.v 5) (.k 0)))))) (.mul (.k (-1)) (.mul (.v 5) (.add (.mul (.k 1) (.mul (.v 0) (.mul (.k 1) (.mul (.v 4) (.k 1))))) (.mul (.k (-1)) (.mul (.v 5) (.k 0))))))) (.mul (.k 1) (.mul (.v 6) (.add (.mul (.k 1) (.mul (.v 0) (.k 0))) (.mul (.k (-1)) (.mul (.v 4) (.k 0)))))))))) (.mul (.k 1) (.mul (.v 6) (.add (.add (.mul (.k 1) (.mul (.v 1) (.add (.mul (.k 1) (.mul (.v 1) (.mul (.k 1) (.mul (.v 4) (.k 1))))) (.mul (.k (-1)) (.mul (.v 5) (.mul (.k 1) (.mul (.v 0) (.k 1)))))))) (.mul (.k (-1)) (.mul (.v 2) (.add (.mul (.k 1) (.mul (.v 0) (.mul (.k 1) (.mul (.v 4) (.k 1))))) (.mul (.k (-1)) (.mul (.v 5) (.k 0))))))) (.mul (.k 1) (.mul (.v 6) (.add (.mul (.k 1) (.mul (.v 0) (.mul (.k 1) (.mul (.v 0) (.k 1))))) (.mul (.k (-1)) (.mul (.v 1) (.k 0)))))))))) (.mul (.k (-1)) (.mul (.v 7) (.add (.add (.mul (.k 1) (.mul (.v 1) (.add (.mul (.k 1) (.mul (.v 1) (.k 0))) (.mul (.k (-1)) (.mul (.v 4) (.mul (.k 1) (.mul (.v 0) (.k 1)))))))) (.mul (.k (-1)) (.mul (.v 2) (.add (.mul (.k 1) (.mul (.v 0) (.k 0))) (.mul (.k (-1)) (.mul (.v 4) (.k 0))))))) (.mul (.k 1) (.mul (.v 5) (.add (.mul (.k 1) (.mul (.v 0) (.mul (.k 1) (.mul (.v 0) (.k 1))))) (.mul (.k (-1)) (.mul (.v 1) (.k 0))))))))))))) (.mul (.k (-1)) (.mul (.v 7) (.add (.add (.add (.mul (.k 1) (.mul (.v 2) (.add (.add (.mul (.k 1) (.mul (.v 2) (.mul (.k (-1)) (.mul (.v 5) (.k 0))))) (.mul (.k (-1)) (.mul (.v 4) (.add (.mul (.k 1) (.mul (.v 1) (.mul (.k 1) (.mul (.v 4) (.k 1))))) (.mul (.k (-1)) (.mul (.v 5) (.mul (.k 1) (.mul (.v 0) (.k 1))))))))) (.mul (.k 1) (.mul (.v 6) (.mul (.k 1) (.mul (.v 1) (.k 0)))))))) (.mul (.k (-1)) (.mul (.v 3) (.add (.add (.mul (.k 1) (.mul (.v 1) (.mul (.k (-1)) (.mul (.v 5) (.k 0))))) (.mul (.k (-1)) (.mul (.v 4) (.add (.mul (.k 1) (.mul (.v 0) (.mul (.k 1) (.mul (.v 4) (.k 1))))) (.mul (.k (-1)) (.mul (.v 5) (.k 0))))))) (.mul (.k 1) (.mul (.v 6) (.mul (.k 1) (.mul (.v 0) (.k 0))))))))) (.mul (.k 1) (.mul (.v 5) (.add (.add (.mul (.k 1) (.mul (.v 1) (.add (.mul (.k 1) (.mul (.v 1) (.mul (.k 1) (.mul (.v 4) (.k 1))))) (.mul (.k (-1)) (.mul (.v 5) (.mul (.k 1) (.mul (.v 0) (.k 1)))))))) (.mul (.k (-1)) (.mul (.v 2) (.add (.mul (.k 1) (.mul (.v 0) (.mul (.k 1) (.mul (.v 4) (.k 1))))) (.mul (.k (-1)) (.mul (.v 5) (.k 0))))))) (.mul (.k 1) (.mul (.v 6) (.add (.mul (.k 1) (.mul (.v 0) (.mul (.k 1) (.mul (.v 0) (.k 1))))) (.mul (.k (-1)) (.mul (.v 1) (.k 0)))))))))) (.mul (.k (-1)) (.mul (.v 7) (.add (.add (.mul (.k 1) (.mul (.v 1) (.mul (.k 1) (.mul (.v 1) (.k 0))))) (.mul (.k (-1)) (.mul (.v 2) (.mul (.k 1) (.mul (.v 0) (.k 0)))))) (.mul (.k 1) (.mul (.v 4) (.add (.mul (.k 1) (.mul (.v 0) (.mul (.k 1) (.mul (.v 0) (.k 1))))) (.mul (.k (-1)) (.mul (.v 1) (.k 0))))))))))))))) (.mul (.k (-1)) (.mul (.v 7) (.add (.add (.mul (.k 1) (.mul (.v 2) (.add (.add (.add (.mul (.k 1) (.mul (.v 2) (.add (.add (.mul (.k 1) (.mul (.v 2) (.add (.mul (.k 1) (.mul (.v 4) (.mul (.k 1) (.mul (.v 4) (.k 1))))) (.mul (.k (-1)) (.mul (.v 5) (.k 0)))))) (.mul (.k (-1)) (.mul (.v 5) (.add (.mul (.k 1) (.mul (.v 1) (.mul (.k 1) (.mul (.v 4) (.k 1))))) (.mul (.k (-1)) (.mul (.v 5) (.mul (.k 1) (.mul (.v 0) (.k 1))))))))) (.mul (.k 1) (.mul (.v 6) (.add (.mul (.k 1) (.mul (.v 1) (.k 0))) (.mul (.k (-1)) (.mul (.v 4) (.mul (.k 1) (.mul (.v 0) (.k 1))))))))))) (.mul (.k (-1)) (.mul (.v 3) (.add (.add (.mul (.k 1) (.mul (.v 1) (.add (.mul (.k 1) (.mul (.v 4) (.mul (.k 1) (.mul (.v 4) (.k 1))))) (.mul (.k (-1)) (.mul (.v 5) (.k 0)))))) (.mul (.k (-1)) (.mul (.v 5) (.add (.mul (.k 1) (.mul (.v 0) (.mul (.k 1) (.mul (.v 4) (.k 1))))) (.mul (.k (-1)) (.mul (.v 5) (.k 0))))))) (.mul (.k 1) (.mul (.v 6) (.add (.mul (.k 1) (.mul (.v 0) (.k 0))) (.mul (.k (-1)) (.mul (.v 4) (.k 0)))))))))) (.mul (.k 1) (.mul (.v 6) (.add (.add (.mul (.k 1) (.mul (.v 1) (.add (.mul (.k 1) (.mul (.v 1) (.mul (.k 1) (.mul (.v 4) (.k 1))))) (.mul (.k (-1)) (.mul (.v 5) (.mul (.k 1) (.mul (.v 0) (.k 1)))))))) (.mul (.k (-1)) (.mul (.v 2) (.add (.mul (.k 1) (.mul (.v 0) (.mul (.k 1) (.mul (.v 4) (.k 1))))) (.mul (.k (-1)) (.mul (.v 5) (.k 0))))))) (.mul (.k 1) (.mul (.v 6) (.add (.mul (.k 1) (.mul (.v 0) (.mul (.k 1) (.mul (.v 0) (.k 1))))) (.mul (.k (-1)) (.mul (.v 1) (.k 0)))))))))) (.mul (.k (-1)) (.mul (.v 7) (.add (.add (.mul (.k 1) (.mul (.v 1) (.add (.mul (.k 1) (.mul (.v 1) (.k 0))) (.mul (.k (-1)) (.mul (.v 4) (.mul (.k 1) (.mul (.v 0) (.k 1)))))))) (.mul (.k (-1)) (.mul (.v 2) (.add (.mul (.k 1) (.mul (.v 0) (.k 0))) (.mul (.k (-1)) (.mul (.v 4) (.k 0))))))) (.mul (.k 1) (.mul (.v 5) (.add (.mul (.k 1) (.mul (.v 0) (.mul (.k 1) (.mul (.v 0) (.k 1))))) (.mul (.k (-1)) (.mul (.v 1) (.k 0)))))))))))) (.mul (.k (-1)) (.mul (.v 3) (.add (.add (.add (.mul (.k 1) (.mul (.v 1) (.add (.add (.mul (.k 1) (.mul (.v 2) (.add (.mul (.k 1) (.mul (.v 4) (.mul (.k 1) (.mul (.v 4) (.k 1))))) (.mul (.k (-1)) (.mul (.v 5) (.k 0)))))) (.mul (.k (-1)) (.mul (.v 5) (.add (.mul (.k 1) (.mul (.v 1) (.mul (.k 1) (.mul (.v 4) (.k 1))))) (.mul (.k (-1)) (.mul (.v 5) (.mul (.k 1) (.mul (.v 0) (.k 1))))))))) (.mul (.k 1) (.mul (.v 6) (.add (.mul (.k 1) (.mul (.v 1) (.k 0))) (.mul (.k (-1)) (.mul (.v 4) (.mul (.k 1) (.mul (.v 0) (.k 1))))))))))) (.mul (.k (-1)) (.mul (.v 3) (.add (.add (.mul (.k 1) (.mul (.v 0) (.add (.mul (.k 1) (.mul (.v 4) (.mul (.k 1) (.mul (.v 4) (.k 1))))) (.mul (.k (-1)) (.mul (.v 5) (.k 0)))))) (.mul (.k (-1)) (.mul (.v 5) (.mul (.k (-1)) (.mul (.v 5) (.k 0)))))) (.mul (.k 1) (.mul (.v 6) (.mul (.k (-1)) (.mul (.v 4) (.k 0))))))))) (.mul (.k 1) (.mul (.v 6) (.add (.add (.mul (.k 1) (.mul (.v 0) (.add (.mul (.k 1) (.mul (.v 1) (.mul (.k 1) (.mul (.v 4) (.k 1))))) (.mul (.k (-1)) (.mul (.v 5) (.mul (.k 1) (.mul (.v 0) (.k 1)))))))) (.mul (.k (-1)) (.mul (.v 2) (.mul (.k (-1)) (.mul (.v 5) (.k 0)))))) (.mul (.k 1) (.mul (.v 6) (.mul (.k (-1)) (.mul (.v 1) (.k 0))))))))) (.mul (.k (-1)) (.mul (.v 7) (.add (.add (.mul (.k 1) (.mul (.v 0) (.add (.mul (.k 1) (.mul (.v 1) (.k 0))) (.mul (.k (-1)) (.mul (.v 4) (.mul (.k 1) (.mul (.v 0) (.k 1)))))))) (.mul (.k (-1)) (.mul (.v 2) (.mul (.k (-1)) (.mul (.v 4) (.k 0)))))) (.mul (.k 1) (.mul (.v 5) (.mul (.k (-1)) (.mul (.v 1) (.k 0)))))))))))) (.mul (.k (-1)) (.mul (.v 7) (.add (.add (.add (.mul (.k 1) (.mul (.v 1) (.add (.add (.mul (.k 1) (.mul (.v 1) (.add (.mul (.k 1) (.mul (.v 1) (.mul (.k 1) (.mul (.v 4) (.k 1))))) (.mul (.k (-1)) (.mul (.v 5) (.mul (.k 1) (.mul (.v 0) (.k 1)))))))) (.mul (.k (-1)) (.mul (.v 2) (.add (.mul (.k 1) (.mul (.v 0) (.mul (.k 1) (.mul (.v 4) (.k 1))))) (.mul (.k (-1)) (.mul (.v 5) (.k 0))))))) (.mul (.k 1) (.mul (.v 6) (.add (.mul (.k 1) (.mul (.v 0) (.mul (.k 1) (.mul (.v 0) (.k 1))))) (.mul (.k (-1)) (.mul (.v 1) (.k 0))))))))) (.mul (.k (-1)) (.mul (.v 2) (.add (.add (.mul (.k 1) (.mul (.v 0) (.add (.mul (.k 1) (.mul (.v 1) (.mul (.k 1) (.mul (.v 4) (.k 1))))) (.mul (.k (-1)) (.mul (.v 5) (.mul (.k 1) (.mul (.v 0) (.k 1)))))))) (.mul (.k (-1)) (.mul (.v 2) (.mul (.k (-1)) (.mul (.v 5) (.k 0)))))) (.mul (.k 1) (.mul (.v 6) (.mul (.k (-1)) (.mul (.v 1) (.k 0))))))))) (.mul (.k 1) (.mul (.v 3) (.add (.add (.mul (.k 1) (.mul (.v 0) (.add (.mul (.k 1) (.mul (.v 0) (.mul (.k 1) (.mul (.v 4) (.k 1))))) (.mul (.k (-1)) (.mul (.v 5) (.k 0)))))) (.mul (.k (-1)) (.mul (.v 1) (.mul (.k (-1)) (.mul (.v 5) (.k 0)))))) (.mul (.k 1) (.mul (.v 6) (.mul (.k (-1)) (.mul (.v 0) (.k 0))))))))) (.mul (.k (-1)) (.mul (.v 7) (.add (.add (.mul (.k 1) (.mul (.v 0) (.add (.mul (.k 1) (.mul (.v 0) (.mul (.k 1) (.mul (.v 0) (.k 1))))) (.mul (.k (-1)) (.mul (.v 1) (.k 0)))))) (.mul (.k (-1)) (.mul (.v 1) (.mul (.k (-1)) (.mul (.v 1) (.k 0)))))) (.mul (.k 1) (.mul (.v 2) (.mul (.k (-1)) (.mul (.v 0) (.k 0))))))))))))))) := rfl
theorem res33 (a b : Nat → Int) : det (3 + 3) (syI 3 3 a b) = R33 (a 0) (a 1) (a 2) (a 3) (b 0) (b 1) (b 2) (b 3) := by
  rw [← RE_int (by decide), RE33]
  simp only [Ex.int, two, Nat.reduceLT, Nat.reduceSub, if_true, if_false, ite_true, ite_false, reduceIte]
  unfold R33
  grind
end K25

set_option Elab.async false
set_option linter.all false
set_option maxRecDepth 100000
set_option maxHeartbeats 4000000
/-! what the program's chain tells of two rows of numbers, the second of lower degree -/
namespace K25
theorem ch10 {a0 a1 b0 : Int} (h : b0 ≠ 0) : ∃ fd, srGo 5 1 [[b0], [a0, a1]] [a0, a1] [b0] 1 1 = some fd ∧ fd.length = 2 ∧ fd.getD 0 [] = trimI [R10 a0 a1 b0] := by
  unfold R10
  rw [trim_one h]
  exact sr_end h (Nat.le_refl 1) (.inl rfl) (fun _ => rfl) (fun z => absurd rfl z)
theorem ch20 {a0 a1 a2 b0 : Int} (h : b0 ≠ 0) : ∃ fd, srGo 5 2 [[], [b0], [a0, a1, a2]] [a0, a1, a2] [b0] 1 1 = some fd ∧ fd.length = 3 ∧ fd.getD 0 [] = trimI [-R20 a0 a1 a2 b0] := by
  have n0 : -R20 a0 a1 a2 b0 ≠ 0 := by unfold R20; have : b0 ^ 2 ≠ 0 := Int.pow_ne_zero h; omega
  rw [trim_one n0]
  refine sr_end h (by decide) (.inl rfl) (fun z => absurd z (by decide)) (fun _ => ?_)
  show -(b0 * b0).fdiv 1 = _
  rw [Int.fdiv_one]
  unfold R20
  grind
theorem ch30 {a0 a1 a2 a3 b0 : Int} (h : b0 ≠ 0) : ∃ fd, srGo 5 3 [[], [], [b0], [a0, a1, a2, a3]] [a0, a1, a2, a3] [b0] 1 1 = some fd ∧ fd.length = 4 ∧ fd.getD 0 [] = trimI [-R30 a0 a1 a2 a3 b0] := by
  have n0 : -R30 a0 a1 a2 a3 b0 ≠ 0 := by unfold R30; have : b0 ^ 3 ≠ 0 := Int.pow_ne_zero h; omega
  rw [trim_one n0]
  refine sr_end h (by decide) (.inl rfl) (fun z => absurd z (by decide)) (fun _ => ?_)
  show (b0 * -(b0 * b0).fdiv 1).fdiv 1 = _
  rw [Int.fdiv_one, Int.fdiv_one]
  unfold R30
  grind
theorem ch21 {a0 a1 a2 b0 b1 : Int} (h : b1 ≠ 0) : ∃ fd, srGo 5 2 [[], [b0, b1], [a0, a1, a2]] [a0, a1, a2] [b0, b1] 1 1 = some fd ∧ fd.length = 3 ∧ fd.getD 0 [] = trimI [-R21 a0 a1 a2 b0 b1] := by
  have hrest : (fr [a0, a1, a2] [b0, b1]).map (fun n => (-b1 * n).fdiv (b1 ^ 1 * 1 * 1)) = trimI [-R21 a0 a1 a2 b0 b1] := by
    refine div_trim (by rw [Int.mul_one, Int.mul_one, Int.pow_succ]; simpa using h) h (.cons ?_ .nil)
    show -b1 * (b1 * (b1 * a0) - (b1 * a1 - a2 * b0) * b0) = _
    unfold R21
    grind
  obtain ⟨f1, l1, g1, e⟩ := sr_step (f := 4) (at_ := 2) (found := [[], [b0, b1], [a0, a1, a2]]) (upper := [a0, a1, a2]) (lower := [b0, b1]) (scale := 1) (lead := 1) (own := b1) h (Nat.le_refl 2) (Nat.le_refl 2) rfl h hrest
  rw [e]
  obtain ⟨fd, e1, e2, e3⟩ := sr_last (f := 3) (found := f1.set 0 (trimI [-R21 a0 a1 a2 b0 b1])) (upper := [b0, b1]) (scale := b1) (lead := b1) (s := -R21 a0 a1 a2 b0 b1) (by rw [List.length_set, l1]; simp) (set_get (by rw [l1]; simp))
  exact ⟨fd, e1, by rw [e2, List.length_set, l1]; rfl, e3⟩
theorem ch31 {a0 a1 a2 a3 b0 b1 : Int} (h : b1 ≠ 0) : ∃ fd, srGo 5 3 [[], [], [b0, b1], [a0, a1, a2, a3]] [a0, a1, a2, a3] [b0, b1] 1 1 = some fd ∧ fd.length = 4 ∧ fd.getD 0 [] = trimI [-R31 a0 a1 a2 a3 b0 b1] := by
  have h2 : b1 ^ 2 ≠ 0 := Int.pow_ne_zero h
  have hw : -(b1 * b1) ≠ 0 := by have : b1 ^ 2 = b1 * b1 := by grind
                                 omega
  have hrest : (fr [a0, a1, a2, a3] [b0, b1]).map (fun n => (- -(b1 * b1) * n).fdiv (b1 ^ 2 * 1 * 1)) = trimI [-R31 a0 a1 a2 a3 b0 b1] := by
    refine div_trim (by rw [Int.mul_one, Int.mul_one]; exact h2) hw (.cons ?_ .nil)
    show - -(b1 * b1) * (b1 * (b1 * (b1 * a0)) - (b1 * (b1 * a1) - (b1 * a2 - a3 * b0) * b0) * b0) = _
    unfold R31
    grind
  obtain ⟨f1, l1, g1, e⟩ := sr_step (f := 4) (at_ := 3) (found := [[], [], [b0, b1], [a0, a1, a2, a3]]) (upper := [a0, a1, a2, a3]) (lower := [b0, b1]) (scale := 1) (lead := 1) (own := -(b1 * b1)) h (Nat.le_refl 2) (by show 2 ≤ 3; decide) (by
    show -(b1 * b1).fdiv 1 = _
    rw [Int.fdiv_one]) hw hrest
  rw [e]
  obtain ⟨fd, e1, e2, e3⟩ := sr_last (f := 3) (found := f1.set 0 (trimI [-R31 a0 a1 a2 a3 b0 b1])) (upper := [b0, b1]) (scale := -(b1 * b1)) (lead := b1) (s := -R31 a0 a1 a2 a3 b0 b1) (by rw [List.length_set, l1]; simp) (set_get (by rw [l1]; simp))
  exact ⟨fd, e1, by rw [e2, List.length_set, l1]; rfl, e3⟩
def w0 (a0 a1 a2 a3 b0 b1 b2 : Int) : Int := -(b2 * (b2 * a0) - (b2 * a2 - a3 * b1) * b0)
def w1 (a0 a1 a2 a3 b0 b1 b2 : Int) : Int := -(b2 * (b2 * a1 - a3 * b0) - (b2 * a2 - a3 * b1) * b1)
theorem id32 (a0 a1 a2 a3 b0 b1 b2 : Int) : w1 a0 a1 a2 a3 b0 b1 b2 * (w1 a0 a1 a2 a3 b0 b1 b2 * b0) - (w1 a0 a1 a2 a3 b0 b1 b2 * b1 - b2 * w0 a0 a1 a2 a3 b0 b1 b2) * w0 a0 a1 a2 a3 b0 b1 b2 = b2 * b2 * R32 a0 a1 a2 a3 b0 b1 b2 := by
  unfold w0 w1 R32
  grind
theorem ch32 {a0 a1 a2 a3 b0 b1 b2 : Int} (h2 : b2 ≠ 0) : ∃ fd, srGo 5 3 [[], [], [b0, b1, b2], [a0, a1, a2, a3]] [a0, a1, a2, a3] [b0, b1, b2] 1 1 = some fd ∧ fd.length = 4 ∧ fd.getD 0 [] = trimI [-R32 a0 a1 a2 a3 b0 b1 b2] := by
  have hrest : (fr [a0, a1, a2, a3] [b0, b1, b2]).map (fun n => (-b2 * n).fdiv (b2 ^ 1 * 1 * 1)) = trimI [w0 a0 a1 a2 a3 b0 b1 b2, w1 a0 a1 a2 a3 b0 b1 b2] := by
    refine div_trim (by rw [Int.mul_one, Int.mul_one, Int.pow_succ]; simpa using h2) h2 (.cons ?_ (.cons ?_ .nil))
    · show -b2 * (b2 * (b2 * a0) - (b2 * a2 - a3 * b1) * b0) = _
      unfold w0
      grind
    · show -b2 * (b2 * (b2 * a1 - a3 * b0) - (b2 * a2 - a3 * b1) * b1) = _
      unfold w1
      grind
  obtain ⟨f1, l1, g1, e⟩ := sr_step (f := 4) (at_ := 3) (found := [[], [], [b0, b1, b2], [a0, a1, a2, a3]]) (upper := [a0, a1, a2, a3]) (lower := [b0, b1, b2]) (scale := 1) (lead := 1) (own := b2) h2 (by simp) (Nat.le_refl 3) rfl h2 hrest
  rw [e]
  clear e hrest
  have g1 : f1.getD 0 [] = [] := g1
  have l1 : f1.length = 4 := l1
  have v := id32 a0 a1 a2 a3 b0 b1 b2
  generalize w0 a0 a1 a2 a3 b0 b1 b2 = x0 at *
  generalize w1 a0 a1 a2 a3 b0 b1 b2 = x1 at *
  generalize R32 a0 a1 a2 a3 b0 b1 b2 = S at *
  show ∃ fd, srGo 4 2 (f1.set 1 (trimI [x0, x1])) [b0, b1, b2] (trimI [x0, x1]) b2 b2 = some fd ∧ _
  by_cases c1 : x1 = 0
  · subst c1
    rw [trim_z2]
    have e1 : x0 * x0 = b2 * - -S := by
      have : b2 * (x0 * x0 - b2 * - -S) = 0 := by grind
      rcases Int.mul_eq_zero.mp this with q | q
      · exact absurd q h2
      · omega
    by_cases c0 : x0 = 0
    · subst c0
      have S0 : -S = 0 := by
        have : b2 * - -S = 0 := by rw [← e1]; simp
        rcases Int.mul_eq_zero.mp this with q | q
        · exact absurd q h2
        · omega
      rw [trim_z1, S0, trim_z1]
      exact ⟨_, sr_nil, by rw [List.length_set]; exact l1, by rw [set_get1 (by decide)]; exact g1⟩
    · rw [trim_one c0]
      have S0 : -S ≠ 0 := fun z => by
        rw [z] at e1
        have : x0 * x0 = 0 := by rw [e1]; simp
        rcases Int.mul_eq_zero.mp this with q | q <;> exact c0 q
      rw [trim_one S0]
      obtain ⟨fd, e2, e3, e4⟩ := sr_end (f := 3) (at_ := 2) (found := f1.set 1 [x0]) (upper := [b0, b1, b2]) (scale := b2) (lead := b2) (c := x0) (own := -S) c0 (by decide) (.inr (.inr (by rw [List.length_set, l1]; decide))) (fun z => absurd z (by decide)) (fun _ => by
        show (-(x0 * x0).fdiv b2) = -S
        rw [fdiv_eq h2 e1]; omega)
      exact ⟨fd, e2, by rw [e3, List.length_set, l1], e4⟩
  · rw [trim_two c1]
    have hr2 : (fr [b0, b1, b2] [x0, x1]).map (fun n => (-x1 * n).fdiv (x1 ^ 1 * b2 * b2)) = trimI [-S] := by
      refine div_trim ?_ c1 (.cons ?_ .nil)
      · rw [Int.pow_succ, Int.pow_zero, Int.one_mul]
        exact Int.mul_ne_zero (Int.mul_ne_zero c1 h2) h2
      · show -x1 * (x1 * (x1 * b0) - (x1 * b1 - b2 * x0) * x0) = _
        rw [v]
        grind
    obtain ⟨f2, l2, g2, e'⟩ := sr_step (f := 3) (at_ := 2) (found := f1.set 1 [x0, x1]) (upper := [b0, b1, b2]) (lower := [x0, x1]) (scale := b2) (lead := b2) (own := x1) c1 (Nat.le_refl 2) (Nat.le_refl 2) rfl c1 hr2
    rw [e']
    rw [List.length_set, l1] at l2
    obtain ⟨fd, e1, e2, e3⟩ := sr_last (f := 2) (found := f2.set 0 (trimI [-S])) (upper := [x0, x1]) (scale := x1) (lead := x1) (s := -S) (by rw [List.length_set, l2]; decide) (set_get (by rw [l2]; decide))
    exact ⟨fd, e1, by rw [e2, List.length_set, l2], e3⟩
/-- Sylvester's determinant of two rows of numbers -/
def rsl (F G : List Int) : Int := det (F.length - 1 + (G.length - 1)) (syI (F.length - 1) (G.length - 1) (g F) (g G))
/-- the chain tells the determinant -/
theorem chain {F G : List Int} (l4 : F.length ≤ 4) (lG : G.length < F.length) (h1 : 1 ≤ G.length) (ha : hd G ≠ 0) :
    ∃ fd s, srGo 5 (F.length - 1) ((List.replicate (F.length - 1) [] ++ [F]).set (F.length - 2) G) F G 1 1 = some fd ∧ 1 ≤ fd.length ∧ fd.getD 0 [] = trimI [s] ∧
      (if (F.length - 1) * (F.length - 1 - 1) / 2 % 2 = 0 then s else -s) = rsl F G := by
  match F, G, l4, lG, h1, ha with
  | [_], _ :: _, _, lG, _, _ => exact absurd lG (by simp)
  | [_], [], _, _, h1, _ => exact absurd h1 (by simp)
  | [a0, a1], [b0], _, _, _, ha =>
    obtain ⟨fd, e1, e2, e3⟩ := ch10 (a0 := a0) (a1 := a1) (b0 := b0) ha
    exact ⟨fd, _, e1, by omega, e3, by
      show (if 1 * (1 - 1) / 2 % 2 = 0 then _ else _) = _
      rw [if_pos (by decide)]
      exact (res10 (g [a0, a1]) (g [b0])).symm⟩
  | [a0, a1, a2], [b0], _, _, _, ha =>
    obtain ⟨fd, e1, e2, e3⟩ := ch20 (a0 := a0) (a1 := a1) (a2 := a2) (b0 := b0) ha
    exact ⟨fd, _, e1, by omega, e3, by
      show (if 2 * (2 - 1) / 2 % 2 = 0 then _ else _) = _
      rw [if_neg (by decide)]
      exact (Int.neg_neg _).trans (res20 (g [a0, a1, a2]) (g [b0])).symm⟩
  | [a0, a1, a2, a3], [b0], _, _, _, ha =>
    obtain ⟨fd, e1, e2, e3⟩ := ch30 (a0 := a0) (a1 := a1) (a2 := a2) (a3 := a3) (b0 := b0) ha
    exact ⟨fd, _, e1, by omega, e3, by
      show (if 3 * (3 - 1) / 2 % 2 = 0 then _ else _) = _
      rw [if_neg (by decide)]
      exact (Int.neg_neg _).trans (res30 (g [a0, a1, a2, a3]) (g [b0])).symm⟩
  | [a0, a1, a2], [b0, b1], _, _, _, ha =>
    obtain ⟨fd, e1, e2, e3⟩ := ch21 (a0 := a0) (a1 := a1) (a2 := a2) (b0 := b0) (b1 := b1) ha
    exact ⟨fd, _, e1, by omega, e3, by
      show (if 2 * (2 - 1) / 2 % 2 = 0 then _ else _) = _
      rw [if_neg (by decide)]
      exact (Int.neg_neg _).trans (res21 (g [a0, a1, a2]) (g [b0, b1])).symm⟩
  | [a0, a1, a2, a3], [b0, b1], _, _, _, ha =>
    obtain ⟨fd, e1, e2, e3⟩ := ch31 (a0 := a0) (a1 := a1) (a2 := a2) (a3 := a3) (b0 := b0) (b1 := b1) ha
    exact ⟨fd, _, e1, by omega, e3, by
      show (if 3 * (3 - 1) / 2 % 2 = 0 then _ else _) = _
      rw [if_neg (by decide)]
      exact (Int.neg_neg _).trans (res31 (g [a0, a1, a2, a3]) (g [b0, b1])).symm⟩
  | [a0, a1, a2, a3], [b0, b1, b2], _, _, _, ha =>
    obtain ⟨fd, e1, e2, e3⟩ := ch32 (a0 := a0) (a1 := a1) (a2 := a2) (a3 := a3) (b0 := b0) (b1 := b1) (b2 := b2) ha
    exact ⟨fd, _, e1, by omega, e3, by
      show (if 3 * (3 - 1) / 2 % 2 = 0 then _ else _) = _
      rw [if_neg (by decide)]
      exact (Int.neg_neg _).trans (res32 (g [a0, a1, a2, a3]) (g [b0, b1, b2])).symm⟩
/-- the parts exchanged -/
theorem rsl_ex {F G : List Int} (lF : F.length ≤ 4) (lG : G.length ≤ 4) (hF : 1 ≤ F.length) (hG : 1 ≤ G.length) : rsl G F = if (F.length - 1) * (G.length - 1) % 2 = 0 then rsl F G else -rsl F G := by
  obtain ⟨n, hn⟩ : ∃ n, F.length = n + 1 := ⟨F.length - 1, by omega⟩
  obtain ⟨m, hm⟩ : ∃ m, G.length = m + 1 := ⟨G.length - 1, by omega⟩
  unfold rsl
  rw [hn, hm, Nat.add_sub_cancel, Nat.add_sub_cancel]
  have n3 : n ≤ 3 := by omega
  have m3 : m ≤ 3 := by omega
  clear hn hm lF lG hF hG
  generalize g F = a
  generalize g G = b
  match n, m, n3, m3 with
  | 0, 0, _, _ => rfl
  | 0, 1, _, _ => rw [res10, res01, if_pos (by decide)]; rfl
  | 0, 2, _, _ => rw [res20, res02, if_pos (by decide)]; rfl
  | 0, 3, _, _ => rw [res30, res03, if_pos (by decide)]; rfl
  | 1, 0, _, _ => rw [res10, res01, if_pos (by decide)]; rfl
  | 2, 0, _, _ => rw [res20, res02, if_pos (by decide)]; rfl
  | 3, 0, _, _ => rw [res30, res03, if_pos (by decide)]; rfl
  | 1, 1, _, _ => rw [res11, res11, if_neg (by decide)]; unfold R11; grind
  | 1, 2, _, _ => rw [res12, res21, if_pos (by decide)]; unfold R12 R21; grind
  | 2, 1, _, _ => rw [res12, res21, if_pos (by decide)]; unfold R12 R21; grind
  | 1, 3, _, _ => rw [res13, res31, if_neg (by decide)]; unfold R13 R31; grind
  | 3, 1, _, _ => rw [res13, res31, if_neg (by decide)]; unfold R13 R31; grind
  | 2, 2, _, _ => rw [res22, res22, if_pos (by decide)]; unfold R22; grind
  | 2, 3, _, _ => rw [res23, res32, if_pos (by decide)]; unfold R23 R32; grind
  | 3, 2, _, _ => rw [res23, res32, if_pos (by decide)]; unfold R23 R32; grind
  | 3, 3, _, _ => rw [res33, res33, if_neg (by decide)]; unfold R33; grind
end K25

set_option Elab.async false
set_option linter.all false
set_option maxRecDepth 100000
set_option maxHeartbeats 4000000
/-! rows of numbers of one degree -/
namespace K25
def crs (a b : Int) (F G : List Int) : List Int := List.zipWith (fun first two => a * two - b * first) F G
/-- the row that the program goes on with -/
def crsT (F G : List Int) : List Int := trimI (crs (hd F) (hd G) F G)
theorem canc {a x y : Int} (h : a ≠ 0) (e : a * x = a * y) : x = y := Int.eq_of_mul_eq_mul_left h e
theorem j21 (a0 a1 a2 u0 : Int) : R21 a0 a1 a2 u0 0 = a2 * R20 a0 a1 a2 u0 := by unfold R21 R20; grind
theorem j32 (a0 a1 a2 a3 u0 u1 : Int) : R32 a0 a1 a2 a3 u0 u1 0 = a3 * R31 a0 a1 a2 a3 u0 u1 := by unfold R32 R31; grind
theorem j31 (a0 a1 a2 a3 u0 : Int) : R31 a0 a1 a2 a3 u0 0 = a3 * R30 a0 a1 a2 a3 u0 := by unfold R31 R30; grind
theorem i11 (a0 a1 b0 b1 : Int) : R10 a0 a1 (a1 * b0 - b1 * a0) = R11 a0 a1 b0 b1 := by unfold R10 R11; grind
theorem i22 (a0 a1 a2 b0 b1 b2 : Int) : R21 a0 a1 a2 (a2 * b0 - b2 * a0) (a2 * b1 - b2 * a1) = a2 * R22 a0 a1 a2 b0 b1 b2 := by unfold R21 R22; grind
theorem i33 (a0 a1 a2 a3 b0 b1 b2 b3 : Int) : R32 a0 a1 a2 a3 (a3 * b0 - b3 * a0) (a3 * b1 - b3 * a1) (a3 * b2 - b3 * a2) = a3 ^ 2 * R33 a0 a1 a2 a3 b0 b1 b2 b3 := by unfold R32 R33; grind
theorem trim_z4 {a b c : Int} : trimI [a, b, c, 0] = trimI [a, b, c] := by
  by_cases h : c = 0
  · subst h
    by_cases h : b = 0
    · subst h; simp [trimI, trimBy]
    · simp [trimI, trimBy, h]
  · simp [trimI, trimBy, h]
theorem alike {F G : List Int} (lF : F.length ≤ 4) (l2 : 2 ≤ F.length) (lG : G.length = F.length) (ha : hd F ≠ 0) :
    (crsT F G = [] ∧ rsl F G = 0) ∨ (crsT F G ≠ [] ∧ (crsT F G).length < F.length ∧ hd (crsT F G) ≠ 0 ∧ rsl F (crsT F G) = hd F ^ ((crsT F G).length - 1) * rsl F G) := by
  match F, G, lF, l2, lG, ha with
  | [a0, a1], [b0, b1], _, _, _, ha =>
    have ha : a1 ≠ 0 := ha
    have z : a1 * b1 - b1 * a1 = 0 := by grind
    have e : crsT [a0, a1] [b0, b1] = trimI [a1 * b0 - b1 * a0, a1 * b1 - b1 * a1] := rfl
    rw [z, trim_z2] at e
    rw [e, show rsl [a0, a1] [b0, b1] = R11 a0 a1 b0 b1 from res11 (g [a0, a1]) (g [b0, b1]), ← i11]
    generalize a1 * b0 - b1 * a0 = u0
    by_cases c0 : u0 = 0
    · subst c0; left; exact ⟨trim_z1, by unfold R10; rfl⟩
    · right
      rw [trim_one c0]
      refine ⟨by simp, by simp, c0, ?_⟩
      show rsl [a0, a1] [u0] = a1 ^ 0 * _
      rw [Int.pow_zero, Int.one_mul]
      exact res10 (g [a0, a1]) (g [u0])
  | [a0, a1, a2], [b0, b1, b2], _, _, _, ha =>
    have ha : a2 ≠ 0 := ha
    have z : a2 * b2 - b2 * a2 = 0 := by grind
    have e : crsT [a0, a1, a2] [b0, b1, b2] = trimI [a2 * b0 - b2 * a0, a2 * b1 - b2 * a1, a2 * b2 - b2 * a2] := rfl
    rw [z, trim_z3] at e
    have i := i22 a0 a1 a2 b0 b1 b2
    rw [e, show rsl [a0, a1, a2] [b0, b1, b2] = R22 a0 a1 a2 b0 b1 b2 from res22 (g [a0, a1, a2]) (g [b0, b1, b2])]
    generalize a2 * b0 - b2 * a0 = u0 at *
    generalize a2 * b1 - b2 * a1 = u1 at *
    by_cases c1 : u1 = 0
    · subst c1
      rw [trim_z2]
      rw [j21] at i
      have i := canc ha i
      by_cases c0 : u0 = 0
      · subst c0; left; exact ⟨trim_z1, by rw [← i]; unfold R20; rfl⟩
      · right
        rw [trim_one c0]
        refine ⟨by simp, by simp, c0, ?_⟩
        show rsl [a0, a1, a2] [u0] = a2 ^ 0 * _
        rw [Int.pow_zero, Int.one_mul, ← i]
        exact res20 (g [a0, a1, a2]) (g [u0])
    · right
      rw [trim_two c1]
      refine ⟨by simp, by simp, c1, ?_⟩
      show rsl [a0, a1, a2] [u0, u1] = a2 ^ 1 * _
      rw [Int.pow_succ, Int.pow_zero, Int.one_mul, ← i]
      exact res21 (g [a0, a1, a2]) (g [u0, u1])
  | [a0, a1, a2, a3], [b0, b1, b2, b3], _, _, _, ha =>
    have ha : a3 ≠ 0 := ha
    have z : a3 * b3 - b3 * a3 = 0 := by grind
    have e : crsT [a0, a1, a2, a3] [b0, b1, b2, b3] = trimI [a3 * b0 - b3 * a0, a3 * b1 - b3 * a1, a3 * b2 - b3 * a2, a3 * b3 - b3 * a3] := rfl
    rw [z, trim_z4] at e
    have i := i33 a0 a1 a2 a3 b0 b1 b2 b3
    rw [e, show rsl [a0, a1, a2, a3] [b0, b1, b2, b3] = R33 a0 a1 a2 a3 b0 b1 b2 b3 from res33 (g [a0, a1, a2, a3]) (g [b0, b1, b2, b3])]
    generalize a3 * b0 - b3 * a0 = u0 at *
    generalize a3 * b1 - b3 * a1 = u1 at *
    generalize a3 * b2 - b3 * a2 = u2 at *
    by_cases c2 : u2 = 0
    · subst c2
      rw [trim_z3]
      rw [j32, show a3 ^ 2 = a3 * a3 by grind, Int.mul_assoc] at i
      have i := canc ha i
      by_cases c1 : u1 = 0
      · subst c1
        rw [trim_z2]
        rw [j31] at i
        have i := canc ha i
        by_cases c0 : u0 = 0
        · subst c0; left; exact ⟨trim_z1, by rw [← i]; unfold R30; rfl⟩
        · right
          rw [trim_one c0]
          refine ⟨by simp, by simp, c0, ?_⟩
          show rsl [a0, a1, a2, a3] [u0] = a3 ^ 0 * _
          rw [Int.pow_zero, Int.one_mul, ← i]
          exact res30 (g [a0, a1, a2, a3]) (g [u0])
      · right
        rw [trim_two c1]
        refine ⟨by simp, by simp, c1, ?_⟩
        show rsl [a0, a1, a2, a3] [u0, u1] = a3 ^ 1 * _
        rw [Int.pow_succ, Int.pow_zero, Int.one_mul, ← i]
        exact res31 (g [a0, a1, a2, a3]) (g [u0, u1])
    · right
      rw [trim_three c2]
      refine ⟨by simp, by simp, c2, ?_⟩
      show rsl [a0, a1, a2, a3] [u0, u1, u2] = a3 ^ 2 * _
      rw [← i]
      exact res32 (g [a0, a1, a2, a3]) (g [u0, u1, u2])
end K25

set_option Elab.async false
set_option linter.all false
set_option maxRecDepth 100000
set_option maxHeartbeats 8000000
local macro_rules | `(tactic| walk_at "rd") => `(tactic| dsimp only [Evl.tCut, L2.tSeq, L2.tNext, L2.tRet, L2.tRetN, L2.tAsg, L2.gName, L2.tIfS, L2.tDrop, L2.tCons, L2.tNil, L2.tC, L2.tVar, L2.tCB, L2.tAndV, L2.tOrV, L2.tNotV, L2.tB, L2.tTest, L2.tOp, L2.tUn, L2.tNot, L2.tAnd, L2.tOr, L2.tIf, L2.tCall, L2.tTup, L2.tLst, L2.tNotT, L2.tYes, L2.gTup, L2.gCons, L2.gNil, L2.gSub, L2.tBM0, L2.tBM, L2.tWhile, L2.tFor, L2.iRng1, L2.iRng2, L2.tAugS, Tw.iEnumT, L2.tCKw, L2.tAug, L2.ipI, RT.iRevA, L2.iRevR, L2.tPar, L2.tPar3, L2.tSl, L2.tNoPart, L2.tPart, Tw.tRevT, L2.rAdd, L2.rSub, L2.tBits])
namespace K25
open PySem PySem.Spec PyProof.Rows L2 Tw
/-! the resultant -/
def spWResA : Sp := fun vs H Q _ => ∃ (u v : V) (one other : List Int) (W : Nat), vs = [u, v] ∧ Ro H u one ∧ Ro H v other ∧ one.length ≤ 4 ∧ other.length + 1 ≤ one.length ∧ 1 ≤ other.length ∧ hd other ≠ 0 ∧ WdA W one ∧ WdA W other ∧ 10 ≤ W ∧ W ≤ 10000 ∧
  ∀ H', Same H H' → Q (.int (rsl one other)) H'
def spWResB : Sp := fun vs H Q _ => ∃ (u v : V) (one other : List Int) (W : Nat), vs = [u, v] ∧ Ro H u one ∧ Ro H v other ∧ other.length ≤ 4 ∧ one.length ≤ other.length ∧ 1 ≤ one.length ∧ hd one ≠ 0 ∧ WdA W one ∧ WdA W other ∧ 10 ≤ W ∧ W ≤ 4000 ∧
  ∀ H', Same H H' → Q (.int (rsl one other)) H'
theorem crs_wd {W : Nat} {a b : Int} (ha : Wd W a) (hb : Wd W b) : ∀ {F G : List Int}, WdA W F → WdA W G → WdA (2 * W + 1) (crs a b F G)
  | [], _, _, _ => fun c h => by simp [crs] at h
  | _ :: _, [], _, _ => fun c h => by simp [crs] at h
  | x :: F, y :: G, hF, hG => fun c h => by
    have ih := crs_wd ha hb (F := F) (G := G) (fun c h => hF c (List.mem_cons_of_mem _ h)) (fun c h => hG c (List.mem_cons_of_mem _ h))
    rcases List.mem_cons.mp (show c ∈ (a * y - b * x) :: crs a b F G from h) with rfl | h
    · refine (Wd.sub (ha.mul (hG y (List.mem_cons_self ..))) (hb.mul (hF x (List.mem_cons_self ..)))).up (by omega)
    · exact ih c h
theorem atI_hd {r : List Int} (h : 1 ≤ r.length) : atI (r.map V.int) (-1) = some (V.int (hd r)) := by
  refine atI_end ?_
  rw [List.getLast?_eq_getElem?, List.length_map, List.getElem?_map, List.getElem?_eq_getElem (show r.length - 1 < r.length by omega)]
  show some (V.int _) = _
  unfold hd
  rw [g_some (by omega)]
theorem lc_zipI {K : PySem.W.Frag} {wi : TI} {i j : Nat} {te : TE} {σ : L2.St} {H : Hp} {Q : VK} {xs ys : List Int} (f : Int → Int → Int) (hl : xs.length = ys.length) (hn : xs.length ≤ 1000)
    (hi : ∀ R : It → Hp → Prop, (∀ a b, H a = some (.tup (xs.map V.int)) → H b = some (.tup (ys.map V.int)) → R (RZ.ItzT K a b) H) → wi σ H R)
    (hw : ∀ x y, wipe (((wipe σ [i, j]).set i (some x)).set j (some y)) [i, j] = wipe σ [i, j])
    (he : ∀ x y H1, x ∈ xs → y ∈ ys → Same H H1 → ∀ R : VK, (∀ H2, Same H1 H2 → R (.int (f x y)) H2) → te (((wipe σ [i, j]).set i (some (.int x))).set j (some (.int y))) H1 R)
    (q : ∀ D H', Same H H' → H D = none → H' D = some (.lst ((List.zipWith f xs ys).map V.int)) → Q (.ref D) H') :
    tLc wi (gTup K 2 (gCons (gName i) (gCons (gName j) gNil))) tYes te [i, j] σ H Q := by
  refine hi _ fun a b ha hb D hD => ?_
  refine ⟨fun k m H' => m = xs.length - k ∧ k ≤ xs.length ∧ Same H H' ∧ H' D = some (.lst ((List.zipWith f (xs.take k) (ys.take k)).map V.int)), ⟨_, rfl, Nat.zero_le _, same_new hD, upd_same⟩, ?_⟩
  rintro k m H1 ⟨rfl, il, s1, e1⟩
  have ha1 := s1 _ _ ha
  have hb1 := s1 _ _ hb
  by_cases ci : k < xs.length
  · have em : xs[k]? = some (xs[k]'(by omega)) := List.getElem?_eq_getElem _
    have ew : ys[k]? = some (ys[k]'(by omega)) := List.getElem?_eq_getElem _
    generalize xs[k]'(by omega) = mk at em
    generalize (ys[k]'(by omega)) = wk at ew
    refine Or.inr ⟨⟨_, _, .int mk, .int wk, SqT.of ha1, SqT.of hb1, by rw [List.getElem?_map, em]; rfl, by rw [List.getElem?_map, ew]; rfl⟩, fun H' => Same H H' ∧ H' D = some (.lst ((List.zipWith f (xs.take (k + 1)) (ys.take (k + 1))).map V.int)), fun H' h => ⟨xs.length - (k + 1), by omega, rfl, ci, h⟩, fun x H' y => ?_⟩
    obtain ⟨T, x1, y1, rfl, nT, rfl, hx1, hy1⟩ := y
    have ex := hx1 _ (SqT.of ha1)
    have ey := hy1 _ (SqT.of hb1)
    rw [List.getElem?_map, em] at ex
    rw [List.getElem?_map, ew] at ey
    cases ex
    cases ey
    have sT := same_new (o := .tup [V.int mk, V.int wk]) nT
    refine ⟨T, _, rfl, SqT.of upd_same, rfl, _, _, rfl, _, _, rfl, rfl, hw _ _, ?_⟩
    unfold tYes
    simp only [if_true]
    refine he mk wk _ (List.mem_of_getElem? em) (List.mem_of_getElem? ew) (s1.trans sT) _ fun H2 s2 => ?_
    have s12 := s1.trans (sT.trans s2)
    refine ⟨_, s2 _ _ (sT _ _ e1), ?_, same_upd s12 hD, ?_⟩
    · rw [List.length_map, List.length_zipWith, List.length_take, List.length_take]; exact lt_line (by omega)
    · rw [upd_same, List.take_add_one, List.take_add_one, em, ew, Option.toList_some, Option.toList_some, List.zipWith_append (by rw [List.length_take, List.length_take, hl]), List.map_append]
      rfl
  · have e : k = xs.length := by omega
    subst e
    rw [List.take_length, hl, List.take_length] at e1
    exact Or.inl ⟨⟨_, _, SqT.of ha1, SqT.of hb1, .inl (by rw [List.length_map]; exact Nat.le_refl _)⟩, q D H1 s1 hD e1⟩
section
variable {P : Program} {w : World} {K : PySem.W.Frag} {mg : Str → Option Value} {base : Heap}
theorem scWRes : FnScope ["one", "other", "n", "m", "found", "rest", "first", "two", "last"] ["one", "other"] (defScope sWRes) := ⟨rfl, rfl, rfl, by decide +kernel, rfl, by decide +kernel, by decide +kernel⟩
theorem ok_wresA (D : Def K mg "whole_resultant" sWRes ["one", "other"]) (nb : Nb mg) (cs : Cal P w K mg base "subresultants" 34 ["one", "other"] spSubres) : Cal P w K mg base "whole_resultant" 35 ["one", "other"] spWResA := by
  refine D.ok scWRes (fun vs H Q E h => ?_) (fun f cdv A out s H vs Q E hr h => ?_)
  · obtain ⟨u, v, one, other, W, rfl, _⟩ := h; rfl
  obtain ⟨u, v, one, other, W, rfl, hu, hv, l4, lo, lo1, ho, w1, w2, W10, hW, q⟩ := h
  have l2 : 2 ≤ one.length := by omega
  have l6 : one.length ≤ 6 := by omega
  have hW5 : W * 5 ^ (one.length - 2) ≤ 490000 := by
    have : 5 ^ (one.length - 2) ≤ 5 ^ 2 := Nat.pow_le_pow_right (by decide) (by omega)
    have := Nat.mul_le_mul_left W this
    omega
  obtain ⟨fd, sv, hgo, lfd, hfd, hsv⟩ := chain l4 lo lo1 ho
  rw [← hsv] at q
  refine ⟨_, Evl.pss_cut (ps_par (i := 2) (j := 3) rfl scWRes.nd rfl rfl (by decide) rfl rfl (pa_cons (pe_op op_sub (pe_callB (id := "len") (r := rLn K) call_len_seq (by rfl) nb.len PySem.boot_len (pa_cons (pv 0) pa_nil)) pe_int) (pa_cons (pe_op op_sub (pe_callB (id := "len") (r := rLn K) call_len_seq (by rfl) nb.len PySem.boot_len (pa_cons (pv 1) pa_nil)) pe_int) pa_nil)) rfl)
    (Evl.pss_cut (ps_if (pt_cmpR op_lt (pv 2) (pv 3) (nomark _)) pss_dead pss_nil)
    (Evl.pss_cut (ps_if (pt_cmpR op_eq (pv 2) pe_int (nomark _))
      (pss_one (ps_ret pe_int))
      (pss_nil))
    (Evl.pss_cut (ps_if (pt_cmpR op_eq (pv 2) (pv 3) (nomark _)) pss_dead pss_nil)
    (Evl.pss_cut (ps_set (i := 8) scWRes.nd rfl (Or.inl rfl) (pe_ix (r := rIxT K) ix_tup (pe_cal cs hr (by omega) (by rfl) (pa_cons (pv 0) (pa_cons (pv 1) pa_nil))) pe_int (fun _ _ => rfl)))
    (Evl.pss_cut (ps_if (pt_not (pt_truth (pv 8) (fun _ => rfl)))
      (pss_one (ps_ret pe_int))
      (pss_nil))
    (pss_one (ps_ret (pe_ifExp (pt_truth (pe_op op_mod (pe_op op_fdiv (pe_op op_mulW (pv 2) (pe_op op_sub (pv 2) pe_int)) pe_int) pe_int) (by intro _; rfl)) (pe_un un_neg (pe_ix (r := rIxT K) ix_tup (pv 8) pe_int (fun _ _ => rfl))) (pe_ix (r := rIxT K) ix_tup (pv 8) pe_int (fun _ _ => rfl)))))))))), ?_⟩
  walk_at "rd"
  obtain ⟨pu, rfl, eu⟩ := hu
  obtain ⟨pw, rfl, ew⟩ := hv
  obtain ⟨n, hn⟩ : ∃ n, one.length = n + 1 := ⟨one.length - 1, by omega⟩
  have lon : one.length - 1 = n := by omega
  rw [lon] at q
  obtain ⟨m, hm⟩ : ∃ m, other.length = m + 1 := ⟨other.length - 1, by omega⟩
  have mn : m < n := by omega
  have eP : ((n : Int) * ((n : Int) - 1)) = ((n * (n - 1) : Nat) : Int) := by
    rw [show (n : Int) - 1 = ((n - 1 : Nat) : Int) by omega, ← Int.natCast_mul]
  refine ⟨fun σ H' => σ = [some (.ref pu), some (.ref pw), some (.int (n : Int)), some (.int (m : Int)), none, none, none, none, none] ∧ H' = H, ?_, ?_⟩
  · refine ⟨_, rfl, pu, _, rfl, .inr (SqT.of eu), _, _, rfl, rfl, _, rfl, pw, _, rfl, .inr (SqT.of ew), _, _, rfl, rfl, _, _, rfl, ?_, rfl⟩
    rw [List.length_map, List.length_map]
    show [_, _, some (V.int ((one.length : Int) - 1)), some (V.int ((other.length : Int) - 1)), _, _, _, _, _] = _
    rw [show (one.length : Int) - 1 = (n : Int) by omega, show (other.length : Int) - 1 = (m : Int) by omega]
  rintro σ1 H1 ⟨rfl, rfl⟩
  refine ⟨fun σ H' => σ = [some (.ref pu), some (.ref pw), some (.int (n : Int)), some (.int (m : Int)), none, none, none, none, none] ∧ H' = H1, ?_, ?_⟩
  · refine ⟨_, rfl, _, rfl, _, _, rfl, rfl, _, rfl, ite2 (fun c => ?_) (fun c => ⟨rfl, rfl⟩)⟩
    have := of_decide_eq_true c
    omega
  rintro σ2 H2 ⟨rfl, rfl⟩
  refine ⟨fun σ H' => σ = [some (.ref pu), some (.ref pw), some (.int (n : Int)), some (.int (m : Int)), none, none, none, none, none] ∧ H' = H2, ?_, ?_⟩
  · refine ⟨_, rfl, rfl, _, rfl, ite2 (fun c => ?_) (fun c => ⟨rfl, rfl⟩)⟩
    have c := of_decide_eq_true c
    injection c with c
    omega
  rintro σ3 H3 ⟨rfl, rfl⟩
  refine ⟨fun σ H' => σ = [some (.ref pu), some (.ref pw), some (.int (n : Int)), some (.int (m : Int)), none, none, none, none, none] ∧ H' = H3, ?_, ?_⟩
  · refine ⟨_, rfl, _, rfl, rfl, _, rfl, ite2 (fun c => ?_) (fun c => ⟨rfl, rfl⟩)⟩
    have c := of_decide_eq_true c
    injection c with c
    omega
  rintro σ4 H4 ⟨rfl, rfl⟩
  refine ⟨fun σ H' => ∃ p8, σ = [some (.ref pu), some (.ref pw), some (.int (n : Int)), some (.int (m : Int)), none, none, none, none, some (.ref p8)] ∧ Same H4 H' ∧ H' p8 = some (.tup ((trimI [sv]).map V.int)), ?_, ?_⟩
  · refine ⟨_, rfl, _, rfl, _, _, one, other, W, fd, rfl, ⟨pu, rfl, eu⟩, ⟨pw, rfl, ew⟩, l2, l6, lo, w1, w2, W10, hW5, hgo, fun z H5 s5 hz => ?_⟩
    obtain ⟨pz, xs, rfl, ez, rz⟩ := hz
    obtain ⟨v0, ev0, rv0⟩ := rz.get (k := 0) (by omega)
    obtain ⟨p8, rfl, e8⟩ := rv0
    refine ⟨pz, xs, 0, _, rfl, rfl, SqT.of ez, atI_nat ev0, p8, rfl, s5, ?_⟩
    rw [e8]
    have : fd.getD 0 [] = fd[0] := by rw [List.getD_eq_getElem?_getD, List.getElem?_eq_getElem (by omega)]; rfl
    rw [← this, hfd]
  rintro σ5 H5 ⟨p8, rfl, s5, e8⟩
  by_cases c : sv = 0
  · subst c
    rw [trim_z1] at e8
    refine ⟨fun _ _ => False, ?_, fun _ _ h => h.elim⟩
    refine ⟨_, rfl, _, .inr (.inl ⟨_, SqT.of e8, rfl⟩), ?_⟩
    show Q (V.int 0) H5
    have := q H5 s5
    simpa using this
  rw [trim_one c] at e8
  refine ⟨fun σ H' => σ = [some (.ref pu), some (.ref pw), some (.int (n : Int)), some (.int (m : Int)), none, none, none, none, some (.ref p8)] ∧ H' = H5, ?_, ?_⟩
  · exact ⟨_, rfl, _, .inr (.inl ⟨_, SqT.of e8, rfl⟩), rfl, rfl⟩
  rintro σ6 H6 ⟨rfl, rfl⟩
  refine ⟨_, rfl, _, rfl, _, _, rfl, rfl, _, _, rfl, rfl, ?_, ?_⟩
  · exact Wd.cm (n := 10) (m := 10) (show ((n : Int)).natAbs < 2 ^ 10 by omega) (show ((n : Int) - 1).natAbs < 2 ^ 10 by omega) (by decide)
  dsimp only
  rw [eP]
  generalize hp : n * (n - 1) = pp at q ⊢
  refine ⟨_, _, rfl, rfl, ⟨by decide, by decide⟩, _, _, rfl, rfl, (by show (0 : Int) < 2; decide), _, rfl, ?_⟩
  have em : ((pp : Int) / 2 % 2 != 0) = !decide (pp / 2 % 2 = 0) := by
    by_cases z : pp / 2 % 2 = 0
    · rw [decide_eq_true z, show (pp : Int) / 2 % 2 = 0 by omega]; rfl
    · rw [decide_eq_false z]; exact bne_iff_ne.mpr (by omega)
  rw [em]
  have q6 := q H6 s5
  by_cases z : pp / 2 % 2 = 0
  · rw [decide_eq_true z]
    rw [if_pos z] at q6
    exact iteF ⟨_, rfl, p8, _, 0, _, rfl, rfl, SqT.of e8, rfl, q6⟩
  · rw [decide_eq_false z]
    rw [if_neg z] at q6
    exact iteT ⟨_, rfl, p8, _, 0, _, rfl, rfl, SqT.of e8, rfl, _, rfl, q6⟩
theorem ok_wresB (D : Def K mg "whole_resultant" sWRes ["one", "other"]) (nb : Nb mg) (hN : base.NoSeer) (ht : P.given.tree = none) (cA : Cal P w K mg base "whole_resultant" 35 ["one", "other"] spWResA) (ct : Cal P w K mg base "trimmed" 1 ["numbers"] spTrimI) (cp : Cal P w K mg base "power" 1 ["base", "many"] spPower) : Cal P w K mg base "whole_resultant" 36 ["one", "other"] spWResB := by
  refine D.ok scWRes (fun vs H Q E h => ?_) (fun f cdv A out s H vs Q E hr h => ?_)
  · obtain ⟨u, v, one, other, W, rfl, _⟩ := h; rfl
  obtain ⟨u, v, one, other, W, rfl, hu, hv, l4, lo, lo1, ho, w1, w2, W10, hW, q⟩ := h
  refine ⟨_, Evl.pss_cut (ps_par (i := 2) (j := 3) rfl scWRes.nd rfl rfl (by decide) rfl rfl (pa_cons (pe_op op_sub (pe_callB (id := "len") (r := rLn K) call_len_seq (by rfl) nb.len PySem.boot_len (pa_cons (pv 0) pa_nil)) pe_int) (pa_cons (pe_op op_sub (pe_callB (id := "len") (r := rLn K) call_len_seq (by rfl) nb.len PySem.boot_len (pa_cons (pv 1) pa_nil)) pe_int) pa_nil)) rfl)
    (Evl.pss_cut (ps_if (pt_cmpR op_lt (pv 2) (pv 3) (nomark _))
      (Evl.pss_cut (ps_set (i := 4) scWRes.nd rfl (Or.inl rfl) (pe_cal cA hr (by omega) (by rfl) (pa_cons (pv 1) (pa_cons (pv 0) pa_nil))))
        (pss_one (ps_ret (pe_ifExp (pt_truth (pe_op op_mod (pe_op op_mulW (pv 2) (pv 3)) pe_int) (by intro _; rfl)) (pe_un un_neg (pv 4)) (pv 4))))) pss_nil)
    (Evl.pss_cut (ps_if (pt_cmpR op_eq (pv 2) pe_int (nomark _))
      (pss_one (ps_ret pe_int))
      (pss_nil))
    (Evl.pss_cut (ps_if (pt_cmpR op_eq (pv 2) (pv 3) (nomark _))
      (Evl.pss_cut (ps_set (i := 5) scWRes.nd rfl (Or.inl rfl) (pe_cal ct hr (by omega) (by rfl) (pa_cons (pe_lc (own := [("first", 6), ("two", 7)]) (g := gTup K 2 (gCons (gName 6) (gCons (gName 7) gNil))) (tt := tYes) rfl scWRes.nd (RZ.pi_zipA (by rfl) nb.zip (pa_cons (pv 0) (pa_cons (pv 1) pa_nil))) (blkOk_by (N := ["one", "other", "n", "m", "found", "rest", "first", "two", "last"]) (sc := defScope sWRes) (by decide +kernel)) (fun _ _ _ _ _ => (pg_tup rfl (pgs_cons (pg_name (i := 6) scWRes.nd rfl (Or.inl rfl)) (pgs_cons (pg_name (i := 7) scWRes.nd rfl (Or.inl rfl)) pgs_nil)))) (fun _ _ _ _ _ => pts_nil) (fun _ _ _ _ _ => (pe_op op_sub (pe_op op_mulW (pe_ix (r := rIxT K) ix_tup (pv 0) (pe_un un_neg pe_int) (fun _ _ => rfl)) (pv 7)) (pe_op op_mulW (pe_ix (r := rIxT K) ix_tup (pv 1) (pe_un un_neg pe_int) (fun _ _ => rfl)) (pv 6))))) pa_nil)))
        (pss_one (ps_ret (pe_ifExp (pt_truth (pv 5) (by intro _; rfl)) (pe_op (op_fdivP (se_mk hN ht rfl ⟨rfl, rfl, rfl, rfl⟩) hr (by omega)) (pe_cal cA hr (by omega) (by rfl) (pa_cons (pv 0) (pa_cons (pv 5) pa_nil))) (pe_cal cp hr (by omega) (by rfl) (pa_cons (pe_ix (r := rIxT K) ix_tup (pv 0) (pe_un un_neg pe_int) (fun _ _ => rfl)) (pa_cons (pe_op op_sub (pe_callB (id := "len") (r := rLn K) call_len_seq (by rfl) nb.len PySem.boot_len (pa_cons (pv 5) pa_nil)) pe_int) pa_nil)))) pe_int)))) pss_nil)
    pss_dead))), ?_⟩
  walk_at "rd"
  obtain ⟨pu, rfl, eu⟩ := hu
  obtain ⟨pw, rfl, ew⟩ := hv
  obtain ⟨n, hn⟩ : ∃ n, one.length = n + 1 := ⟨one.length - 1, by omega⟩
  have lon : one.length - 1 = n := by omega
  obtain ⟨m, hm⟩ : ∃ m, other.length = m + 1 := ⟨other.length - 1, by omega⟩
  have lom : other.length - 1 = m := by omega
  refine ⟨fun σ H' => σ = [some (.ref pu), some (.ref pw), some (.int (n : Int)), some (.int (m : Int)), none, none, none, none, none] ∧ H' = H, ?_, ?_⟩
  · refine ⟨_, rfl, pu, _, rfl, .inr (SqT.of eu), _, _, rfl, rfl, _, rfl, pw, _, rfl, .inr (SqT.of ew), _, _, rfl, rfl, _, _, rfl, ?_, rfl⟩
    rw [List.length_map, List.length_map]
    show [_, _, some (V.int ((one.length : Int) - 1)), some (V.int ((other.length : Int) - 1)), _, _, _, _, _] = _
    rw [show (one.length : Int) - 1 = (n : Int) by omega, show (other.length : Int) - 1 = (m : Int) by omega]
  rintro σ1 H1 ⟨rfl, rfl⟩
  refine ⟨fun σ H' => σ = [some (.ref pu), some (.ref pw), some (.int (n : Int)), some (.int (m : Int)), none, none, none, none, none] ∧ H' = H1 ∧ n = m, ?_, ?_⟩
  · refine ⟨_, rfl, _, rfl, _, _, rfl, rfl, _, rfl, ite2 (fun c => ?_) (fun c => ⟨rfl, rfl, ?_⟩)⟩
    · have c := of_decide_eq_true c
      have mn : n < m := by omega
      have hx := rsl_ex (F := other) (G := one) l4 (by omega) (by omega) lo1
      rw [lon, lom] at hx
      refine ⟨fun σ H' => σ = [some (.ref pu), some (.ref pw), some (.int (n : Int)), some (.int (m : Int)), some (.int (rsl other one)), none, none, none, none] ∧ Same H1 H', ?_, ?_⟩
      · refine ⟨_, rfl, _, rfl, _, _, other, one, W, rfl, ⟨pw, rfl, ew⟩, ⟨pu, rfl, eu⟩, l4, by omega, lo1, ho, w2, w1, W10, by omega, fun H5 s5 => ⟨rfl, s5⟩⟩
      rintro σ5 H5 ⟨rfl, s5⟩
      refine ⟨_, rfl, _, rfl, _, _, rfl, rfl, ?_, ?_⟩
      · exact Wd.cm (n := 10) (m := 10) (show ((n : Int)).natAbs < 2 ^ 10 by omega) (show ((m : Int)).natAbs < 2 ^ 10 by omega) (by decide)
      dsimp only
      refine ⟨_, _, rfl, rfl, (by show (0 : Int) < 2; decide), _, rfl, ?_⟩
      have eP : (n : Int) * (m : Int) = ((n * m : Nat) : Int) := (Int.natCast_mul ..).symm
      rw [eP]
      have em : (((n * m : Nat) : Int) % 2 != 0) = !decide (n * m % 2 = 0) := by
        by_cases z : n * m % 2 = 0
        · rw [decide_eq_true z, show ((n * m : Nat) : Int) % 2 = 0 by omega]; rfl
        · rw [decide_eq_false z]; exact bne_iff_ne.mpr (by omega)
      rw [em]
      have q6 := q H5 s5
      have ec : m * n = n * m := Nat.mul_comm ..
      rw [hx, ec] at q6
      by_cases z : n * m % 2 = 0
      · rw [decide_eq_true z]
        rw [if_pos z] at q6
        exact iteF ⟨_, rfl, q6⟩
      · rw [decide_eq_false z]
        rw [if_neg z] at q6
        exact iteT ⟨_, rfl, _, rfl, q6⟩
    · have : ¬ ((n : Int) < (m : Int)) := fun z => c (decide_eq_true z)
      omega
  rintro σ2 H2 ⟨rfl, rfl, rfl⟩
  refine ⟨fun σ H' => σ = [some (.ref pu), some (.ref pw), some (.int (n : Int)), some (.int (n : Int)), none, none, none, none, none] ∧ H' = H2 ∧ 1 ≤ n, ?_, ?_⟩
  · refine ⟨_, rfl, rfl, _, rfl, ite2 (fun c => ?_) (fun c => ⟨rfl, rfl, ?_⟩)⟩
    · have c := of_decide_eq_true c
      injection c with c
      have z : n = 0 := by omega
      subst z
      have e1 : rsl one other = 1 := by unfold rsl; rw [lon, lom]; rfl
      have := q H2 (Same.refl _)
      rw [e1] at this
      exact this
    · rcases Nat.eq_zero_or_pos n with z | z
      · subst z; exact absurd (decide_eq_true rfl) c
      · exact z
  rintro σ3 H3 ⟨rfl, rfl, n1⟩
  refine ⟨fun _ _ => False, ?_, fun _ _ h => h.elim⟩
  refine ⟨_, rfl, _, rfl, rfl, _, rfl, ite2 (fun c => ?_) (fun c => absurd (decide_eq_true rfl) c)⟩
  have hl : one.length = other.length := by omega
  have hF : hd one ≠ 0 := ho
  have hdF : atI (one.map V.int) (-1) = some (V.int (hd one)) := atI_hd (by omega)
  have hdG : atI (other.map V.int) (-1) = some (V.int (hd other)) := atI_hd (by omega)
  have al := alike (F := one) (G := other) (by omega) (by omega) hl.symm hF
  refine ⟨fun σ H' => ∃ p5, σ = [some (.ref pu), some (.ref pw), some (.int (n : Int)), some (.int (n : Int)), none, some (.ref p5), none, none, none] ∧ Same H3 H' ∧ H' p5 = some (.tup ((crsT one other).map V.int)), ?_, ?_⟩
  · refine lc_zipI (xs := one) (ys := other) (fun first two => hd one * two - hd other * first) hl (by omega) (fun R hR => ?_) (fun x y => rfl) (fun x y H4 hx hy s4 R hR => ?_) (fun D H4 s4 hD e4 => ?_)
    · unfold RZ.iZipA
      walk_at "rd"
      exact ⟨_, rfl, _, rfl, pu, pw, _, _, rfl, .inr ⟨SqT.of eu, SqT.of ew, hR _ _ eu ew⟩⟩
    · walk_at "rd"
      refine ⟨_, rfl, 1, rfl, pu, _, -1, _, rfl, rfl, SqT.of (s4 _ _ eu), hdF, _, rfl, _, _, rfl, rfl, Wd.cm (w1.hd) (w2 _ hy) (by omega), _, rfl, 1, rfl, pw, _, -1, _, rfl, rfl, SqT.of (s4 _ _ ew), hdG, _, rfl, _, _, rfl, rfl, Wd.cm (w2.hd) (w1 _ hx) (by omega), _, _, rfl, rfl, hR H4 (Same.refl _)⟩
    · refine ⟨D, _, rfl, e4, fun v H5 s5 hv => ?_⟩
      obtain ⟨p5, rfl, e5⟩ := hv
      exact ⟨p5, rfl, s4.trans s5, e5⟩
  rintro σ5 H5 ⟨p5, rfl, s5, e5⟩
  refine ⟨_, rfl, _, .inr (.inl ⟨_, SqT.of e5, rfl⟩), ?_⟩
  have q5 := q H5 s5
  rcases al with ⟨e, z⟩ | ⟨ne, lr, hr0, er⟩
  · rw [e]
    rw [z] at q5
    exact iteF q5
  · have lp := List.length_pos_iff.mpr ne
    rw [show (!((crsT one other).map V.int).isEmpty) = true by cases h : crsT one other with | nil => exact absurd h ne | cons a r => rfl]
    have wr : WdA (2 * W + 1) (crsT one other) := (crs_wd w1.hd w2.hd w1 w2).trim
    refine iteT ⟨_, rfl, _, rfl, _, _, one, crsT one other, 2 * W + 1, rfl, ⟨pu, rfl, s5 _ _ eu⟩, ⟨p5, rfl, e5⟩, by omega, lr, lp, hr0, w1.up (by omega), wr, by omega, by omega, fun H6 s6 => ?_⟩
    refine ⟨_, rfl, 1, rfl, pu, _, -1, _, rfl, rfl, SqT.of (s6 _ _ (s5 _ _ eu)), hdF, _, rfl, p5, _, rfl, .inr (SqT.of (s6 _ _ e5)), _, _, rfl, rfl, ?_⟩
    refine ⟨hd one, (crsT one other).length - 1, W, ?_, w1.hd, ?_, by omega, fun H7 s7 => ?_⟩
    · rw [List.length_map]
      show [_, V.int (((crsT one other).length : Int) - 1)] = _
      rw [show ((crsT one other).length : Int) - 1 = (((crsT one other).length - 1 : Nat) : Int) by omega]
    · have : ((crsT one other).length - 1) * W ≤ 3 * W := Nat.mul_le_mul_right _ (by omega)
      omega
    have hp : hd one ^ ((crsT one other).length - 1) ≠ 0 := Int.pow_ne_zero hF
    refine ⟨_, _, rfl, rfl, hp, ?_⟩
    show Q (V.int (Int.fdiv _ _)) H7
    rw [fdiv_eq hp er]
    exact q H7 (s5.trans (s6.trans s7))
end
end K25

set_option Elab.async false
set_option linter.all false
set_option maxRecDepth 100000
set_option maxHeartbeats 8000000
local macro_rules | `(tactic| walk_at "rd") => `(tactic| dsimp only [Evl.tCut, L2.tSeq, L2.tNext, L2.tRet, L2.tRetN, L2.tAsg, L2.gName, L2.tIfS, L2.tDrop, L2.tCons, L2.tNil, L2.tC, L2.tVar, L2.tCB, L2.tAndV, L2.tOrV, L2.tNotV, L2.tB, L2.tTest, L2.tOp, L2.tUn, L2.tNot, L2.tAnd, L2.tOr, L2.tIf, L2.tCall, L2.tTup, L2.tLst, L2.tNotT, L2.tYes, L2.gTup, L2.gCons, L2.gNil, L2.gSub, L2.tBM0, L2.tBM, L2.tWhile, L2.tFor, L2.iRng1, L2.iRng2, L2.tAugS, Tw.iEnumT, L2.tCKw, L2.tAug, L2.ipI, RT.iRevA, L2.iRevR, L2.tPar, L2.tPar3, L2.tSl, L2.tNoPart, L2.tPart, Tw.tRevT, L2.rAdd, L2.rSub, L2.tBits])
namespace K25
open PySem PySem.Spec PyProof.Rows L2 Tw
/-! the resultant of two POLYs of degrees up to 3 -/
theorem trim_len (r : List Int) : (trimI r).length ≤ r.length := trimBy_len _ r
theorem rw_len {p : List (List Int)} {L : Nat} (h : ∀ r ∈ p, r.length ≤ L) (i : Nat) : (rw' p i).length ≤ L := by
  rcases Nat.lt_or_ge i p.length with c | c
  · rw [rw_some c]; exact h _ (List.getElem_mem _)
  · rw [rw_none c]; exact Nat.zero_le _
theorem mem_len {p : List (List Int)} {i : Nat} (h : i < p.length) : rw' p i ∈ p := by rw [rw_some h]; exact List.getElem_mem _
theorem g_map_ev (x : Int) (p : List (List Int)) (i : Nat) : g (p.map (ev x)) i = ev x (rw' p i) := by
  rcases Nat.lt_or_ge i p.length with c | c
  · rw [g_some (by rw [List.length_map]; exact c), rw_some c, List.getElem_map]
  · rw [g_none (by rw [List.length_map]; exact c), rw_none c]; rfl
theorem ev_wd2 {b c : Nat} {r : List Int} (h : nm r < 2 ^ c) (l : r.length ≤ 5) : Wd (4 * b + c) (ev (2 ^ b) r) := by
  have h1 := ev_le (2 ^ b) (Nat.pow_pos (by decide)) (n := 4) (r := r) l
  rw [← Nat.pow_mul] at h1
  unfold Wd
  have e : ((2 ^ b : Nat) : Int) = (2 : Int) ^ b := by rw [Int.natCast_pow]; rfl
  rw [e] at h1
  refine Nat.lt_of_le_of_lt h1 ?_
  rw [Nat.pow_add, Nat.mul_comm, Nat.mul_comm b 4]
  exact Nat.mul_lt_mul_of_le_of_lt (Nat.le_refl _) h (Nat.pow_pos (by decide))
theorem one_pow_le {a : Nat} (h : 1 ≤ a) : ∀ {k : Nat}, 1 ≤ k → a ≤ a ^ k
  | 1, _ => by rw [Nat.pow_one]; exact Nat.le_refl _
  | k + 2, _ => by
    have := one_pow_le h (k := k + 1) (by omega)
    rw [Nat.pow_succ]
    exact Nat.le_trans this (Nat.le_mul_of_pos_right _ h)
theorem pow_pos1 {a : Nat} (h : 1 ≤ a) (k : Nat) : 1 ≤ a ^ k := Nat.pow_pos h
theorem nm_le_sum {p : List (List Int)} {r : List Int} (h : r ∈ p) : nm r ≤ sumN p := by
  unfold sumN
  induction p with
  | nil => cases h
  | cons a p ih =>
    rw [List.map_cons, List.sum_cons]
    rcases List.mem_cons.mp h with rfl | h
    · omega
    · have := ih h; omega

/-- the resultant -/
def resT (p q : List (List Int)) : List Int := trimI ((RE (p.length - 1) (q.length - 1)).row (two (rw' p) (rw' q)))
theorem two_map {α β : Type} (f : α → β) (a b : Nat → α) : (fun i => f (two a b i)) = two (fun i => f (a i)) (fun i => f (b i)) := by
  funext i
  unfold two
  split <;> rfl
theorem ev_resT (x : Int) {p q : List (List Int)} (h : p.length ≤ 4) : ev x (resT p q) = det (p.length - 1 + (q.length - 1)) (syI (p.length - 1) (q.length - 1) (fun i => ev x (rw' p i)) (fun i => ev x (rw' q i))) := by
  unfold resT
  rw [ev_trim, Ex.ev, two_map, RE_int (by omega)]
theorem sN_sum : ∀ (n : Nat) (p : List (List Int)), p.length = n → sumN p = sN (fun i => nm (rw' p i)) n
  | 0, p, h => by have : p = [] := List.length_eq_zero_iff.mp h
                  subst this; rfl
  | n + 1, p, h => by
    obtain ⟨q, r, rfl⟩ : ∃ q r, p = q ++ [r] := ⟨p.dropLast, p.getLast (fun z => by rw [z] at h; cases h), (List.dropLast_concat_getLast _).symm⟩
    have lq : q.length = n := by simpa using h
    have ih := sN_sum n q lq
    have e1 : sumN (q ++ [r]) = sumN q + nm r := by unfold sumN; rw [List.map_append, List.sum_append]; simp
    have ext : sN (fun i => nm (rw' (q ++ [r]) i)) n = sN (fun i => nm (rw' q i)) n := sN_ext _ fun i hi => by
      rw [rw_some (by simp; omega), rw_some (by omega), List.getElem_append_left (by omega)]
    rw [e1, ih, sN, ext]
    congr 1
    rw [rw_some (by simp; omega), List.getElem_append_right (by omega)]
    simp [lq]
theorem nm_resT {p q : List (List Int)} (hp : 1 ≤ p.length) (hq : 1 ≤ q.length) (h : p.length ≤ 4) : nm (resT p q) ≤ sumN p ^ (q.length - 1) * sumN q ^ (p.length - 1) := by
  unfold resT
  refine Nat.le_trans (nm_trim _) (Nat.le_trans (Ex.nm _ _) ?_)
  rw [two_map]
  refine Nat.le_trans (RE_nrm (by omega) _ _) (Nat.le_of_eq ?_)
  rw [Nat.sub_add_cancel hp, Nat.sub_add_cancel hq, ← sN_sum _ p rfl, ← sN_sum _ q rfl]
theorem dg_of {r : List Int} {L : Nat} (h : r.length ≤ L + 1) : Dg r L := fun k hk => g_none (by omega)
theorem dg_len {r : List Int} {D : Nat} (h : Dg r D) : (trimI r).length ≤ D + 1 := by
  have ok := okR_trim r
  rcases Nat.lt_or_ge (D + 1) (trimI r).length with c | c
  · exfalso
    refine okR_last ok (fun z => by rw [z] at c; simp at c) ?_
    rw [g_trim, h _ (by omega)]
  · exact c
theorem rw_dg {p : List (List Int)} {L : Nat} (h : ∀ r ∈ p, r.length ≤ L + 1) (i : Nat) : Dg (rw' p i) L := dg_of (rw_len h i)
theorem resT_len {p q : List (List Int)} {A B : Nat} (h : p.length ≤ 4) (hp : ∀ r ∈ p, r.length ≤ A + 1) (hq : ∀ r ∈ q, r.length ≤ B + 1) : (resT p q).length ≤ (q.length - 1) * A + (p.length - 1) * B + 1 :=
  dg_len (RE_dg (by omega) (rw_dg hp) (rw_dg hq))
theorem sum_pos {p : List (List Int)} (okp : okP p) (ne : p ≠ []) : 1 ≤ sumN p := by
  obtain ⟨ok1, ne1⟩ := lead_row okp ne
  have := nm_pos ok1 ne1
  have lp := List.length_pos_iff.mpr ne
  have := nm_le_sum (p := p) (r := rw' p (p.length - 1)) (mem_len (by omega))
  omega
theorem szOf_facts {p q : List (List Int)} (okp : okP p) (okq : okP q) (hp : 1 ≤ p.length) (hq : 1 ≤ q.length) (lp : p.length ≤ 4) (lq : q.length ≤ 4) (hN : sumN p < 2 ^ 50) (hM : sumN q < 2 ^ 50) :
    szOf p q < 2 ^ 401 ∧ sumN p ≤ szOf p q ∧ sumN q ≤ szOf p q ∧ nm (resT p q) ≤ szOf p q := by
  have h1 := sum_pos okp (List.length_pos_iff.mp hp)
  have h2 := sum_pos okq (List.length_pos_iff.mp hq)
  refine ⟨?_, ?_, ?_, ?_⟩
  · unfold szOf
    have a : sumN p ^ q.length ≤ (2 ^ 50) ^ 4 := Nat.le_trans (Nat.pow_le_pow_left (Nat.le_of_lt hN) _) (Nat.pow_le_pow_right (by decide) lq)
    have b : sumN q ^ p.length ≤ (2 ^ 50) ^ 4 := Nat.le_trans (Nat.pow_le_pow_left (Nat.le_of_lt hM) _) (Nat.pow_le_pow_right (by decide) lp)
    exact Nat.lt_of_le_of_lt (Nat.mul_le_mul a b) (by decide +kernel)
  · exact Nat.le_trans (one_pow_le h1 hq) (Nat.le_mul_of_pos_right _ (pow_pos1 h2 _))
  · exact Nat.le_trans (one_pow_le h2 hp) (Nat.le_mul_of_pos_left _ (pow_pos1 h1 _))
  · refine Nat.le_trans (nm_resT hp hq lp) ?_
    exact Nat.mul_le_mul (Nat.pow_le_pow_right h1 (by omega)) (Nat.pow_le_pow_right h2 (by omega))
/-- two promises of one def -/
theorem cal_or {P : Program} {w : World} {K : PySem.W.Frag} {mg : Str → Option Value} {base : Heap} {x : Str} {k : Nat} {ps : List Str} {s1 s2 : Sp} (C : Cal P w K mg base x k ps s1) (D : Cal P w K mg base x k ps s2) : Cal P w K mg base x k ps (fun vs H Q E => s1 vs H Q E ∨ s2 vs H Q E) := by
  obtain ⟨f, fd, F, m, kp, b, oc, od, osl, lk⟩ := C
  obtain ⟨f', fd', F', m', _, _, oc', od', osl', lk'⟩ := D
  rw [m] at m'
  injection m' with m'
  injection m' with m'
  subst m'
  rw [lk] at lk'
  injection lk' with e
  injection e with _ _ e _
  injection e with e
  subst e
  exact ⟨f, fd, ⟨fun vs H Q E h => h.elim (F.len vs H Q E) (F'.len vs H Q E), fun A outer s H args us vs Q E hr he hb hv h => h.elim (F.run A outer s H args us vs Q E hr he hb hv) (F'.run A outer s H args us vs Q E hr he hb hv)⟩, m, kp, b, oc, od, osl, lk⟩
def spWRes : Sp := fun vs H Q E => spWResA vs H Q E ∨ spWResB vs H Q E
def Good (p : List (List Int)) : Prop := okP p ∧ 1 ≤ p.length ∧ p.length ≤ 4 ∧ (∀ r ∈ p, r.length ≤ 5) ∧ sumN p < 2 ^ 50
def spPRes : Sp := fun vs H Q _ => ∃ (u v : V) (p q : List (List Int)), vs = [u, v] ∧ Po H u p ∧ Po H v q ∧ Good p ∧ Good q ∧ ∀ z H', Same H H' → Ro H' z (resT p q) → Q z H'
def spChk : Sp := fun vs H Q _ => ∃ (a : Addr) (u : V) (p : List (List Int)), vs = [u] ∧ We a H ∧ Po H u p ∧ Good p ∧ ∀ H', Same H H' → Q .non H'
def spRes : Sp := fun vs H Q _ => ∃ (a : Addr) (u v : V) (p q : List (List Int)), vs = [u, v] ∧ We a H ∧ Po H u p ∧ Po H v q ∧ Good p ∧ Good q ∧ ∀ z H', Same H H' → Ro H' z (resT p q) → Q z H'
section
variable {P : Program} {w : World} {K : PySem.W.Frag} {mg : Str → Option Value} {base : Heap}
theorem ok_wres (D : Def K mg "whole_resultant" sWRes ["one", "other"]) (nb : Nb mg) (hN : base.NoSeer) (ht : P.given.tree = none) (cs : Cal P w K mg base "subresultants" 34 ["one", "other"] spSubres) (ct : Cal P w K mg base "trimmed" 1 ["numbers"] spTrimI) (cp : Cal P w K mg base "power" 1 ["base", "many"] spPower) : Cal P w K mg base "whole_resultant" 36 ["one", "other"] spWRes :=
  cal_or ((ok_wresA D nb cs).up (by decide)) (ok_wresB D nb hN ht (ok_wresA D nb cs) ct cp)
theorem scPRes : FnScope ["one", "other", "bits"] ["one", "other"] (defScope sPRes) := ⟨rfl, rfl, rfl, by decide +kernel, rfl, by decide +kernel, by decide +kernel⟩
theorem ok_pres (D : Def K mg "poly_resultant" sPRes ["one", "other"]) (cb : Cal P w K mg base "bits_for" 2 ["one", "other"] spBitsFor) (cp : Cal P w K mg base "packed_poly" 2 ["poly", "bits"] spPackedP) (cw : Cal P w K mg base "whole_resultant" 36 ["one", "other"] spWRes)
    (cu : Cal P w K mg base "unpacked" 1 ["value", "bits"] spUnpacked) : Cal P w K mg base "poly_resultant" 37 ["one", "other"] spPRes := by
  refine D.ok scPRes (fun vs H Q E h => ?_) (fun f cdv A out s H vs Q E hr h => ?_)
  · obtain ⟨u, v, p, q, rfl, _⟩ := h; rfl
  obtain ⟨u, v, p, q', rfl, hu, hv, ⟨okp, p1, p4, lr, hN⟩, ⟨okq, q1, q4, lr2, hM⟩, q⟩ := h
  refine ⟨_, Evl.pss_cut (ps_set (i := 2) scPRes.nd rfl (Or.inl rfl) (pe_cal cb hr (by omega) (by rfl) (pa_cons (pv 0) (pa_cons (pv 1) pa_nil))))
    (pss_one (ps_ret (pe_cal cu hr (by omega) (by rfl) (pa_cons (pe_cal cw hr (by omega) (by rfl) (pa_cons (pe_cal cp hr (by omega) (by rfl) (pa_cons (pv 0) (pa_cons (pv 2) pa_nil))) (pa_cons (pe_cal cp hr (by omega) (by rfl) (pa_cons (pv 1) (pa_cons (pv 2) pa_nil))) pa_nil))) (pa_cons (pv 2) pa_nil))))), ?_⟩
  walk_at "rd"
  obtain ⟨pu, xs, rfl, eu, ru⟩ := hu
  obtain ⟨pw, ys, rfl, ew, rv⟩ := hv
  obtain ⟨h4, h5, h6, h7⟩ := szOf_facts okp okq p1 q1 p4 q4 hN hM
  refine ⟨fun σ H' => ∃ b : Nat, σ = [some (.ref pu), some (.ref pw), some (.int (b : Int))] ∧ Same H H' ∧ 4 * szOf p q' < 2 ^ b ∧ 2 ≤ b ∧ b ≤ 405, ?_, ?_⟩
  · refine ⟨_, rfl, _, rfl, .ref pu, .ref pw, p, q', 90, rfl, ⟨pu, xs, rfl, eu, ru⟩, ⟨pw, ys, rfl, ew, rv⟩, by omega, by omega, fun r hr => by have := lr r hr; omega, fun r hr => by have := lr2 r hr; omega, Nat.lt_trans hN (by decide), Nat.lt_trans hM (by decide), by decide, fun b H1 hb hm s1 => ⟨b + 2, rfl, s1, ?_, by omega, ?_⟩⟩
    · rw [Nat.pow_add]; omega
    · have := hm 401 h4; omega
  rintro σ1 H1 ⟨b, rfl, s1, hb, b2, b405⟩
  have nmp : ∀ r ∈ p, nm r < 2 ^ b := fun r hr => by have := nm_le_sum hr; omega
  have nmq : ∀ r ∈ q', nm r < 2 ^ b := fun r hr => by have := nm_le_sum hr; omega
  refine ⟨_, rfl, _, rfl, .ref pu, p, b, rfl, ⟨pu, xs, rfl, s1 _ _ eu, ru.kt (Kt.of s1)⟩, by omega, fun r hr => ⟨by have := lr r hr; omega, nmp r hr⟩, by omega, fun z2 H2 s2 rz => ?_⟩
  have s12 := s1.trans s2
  refine ⟨_, rfl, _, rfl, .ref pw, q', b, rfl, ⟨pw, ys, rfl, s12 _ _ ew, rv.kt (Kt.of s12)⟩, by omega, fun r hr => ⟨by have := lr2 r hr; omega, nmq r hr⟩, by omega, fun z3 H3 s3 rz3 => ?_⟩
  have eN : ((2 ^ b : Nat) : Int) = (2 : Int) ^ b := by rw [Int.natCast_pow]; rfl
  have gF : ∀ p : List (List Int), g (p.map (ev (2 ^ b))) = fun i => ev (2 ^ b) (rw' p i) := fun p => funext fun i => g_map_ev _ p i
  have hne : ∀ p : List (List Int), okP p → 1 ≤ p.length → (∀ r ∈ p, nm r < 2 ^ b) → hd (p.map (ev (2 ^ b))) ≠ 0 := fun p ok l hn => by
    obtain ⟨ok1, ne1⟩ := lead_row ok (List.length_pos_iff.mp l)
    unfold hd
    rw [List.length_map, g_map_ev, ← eN]
    exact ev_ne ok1 ne1 fun c hc => Nat.lt_of_le_of_lt (nm_mem hc) (hn _ (mem_len (by omega)))
  have W3 : WdA 2000 (p.map (ev (2 ^ b))) := fun c hc => by
    obtain ⟨r, hr, rfl⟩ := List.mem_map.mp hc
    exact (ev_wd2 (b := b) (c := 50) (Nat.lt_of_le_of_lt (nm_le_sum hr) hN) (lr r hr)).up (by omega)
  have W4 : WdA 2000 (q'.map (ev (2 ^ b))) := fun c hc => by
    obtain ⟨r, hr, rfl⟩ := List.mem_map.mp hc
    exact (ev_wd2 (b := b) (c := 50) (Nat.lt_of_le_of_lt (nm_le_sum hr) hM) (lr2 r hr)).up (by omega)
  have er : rsl (p.map (ev (2 ^ b))) (q'.map (ev (2 ^ b))) = ev (2 ^ b) (resT p q') := by
    unfold rsl
    rw [List.length_map, List.length_map, gF, gF, ev_resT _ p4]
  have fin : ∀ H4, Same H3 H4 → spUnpacked ([V.int (rsl (p.map (ev (2 ^ b))) (q'.map (ev (2 ^ b)))), V.int (b : Int)] ++ []) H4 Q E0 := fun H4 s4 => by
    rw [er]
    exact ⟨b, resT p q', rfl, okR_trim _, Nat.le_trans (resT_len (A := 4) (B := 4) p4 lr lr2) (by omega), b2, by omega, fun c hc => by have := nm_mem hc; omega, fun z H5 s5 rz => q z H5 (s12.trans (s3.trans (s4.trans s5))) rz⟩
  rcases Nat.lt_or_ge q'.length p.length with c | c
  · exact .inl ⟨z2, z3, p.map (ev (2 ^ b)), q'.map (ev (2 ^ b)), 2000, rfl, rz.kt (Kt.of s3), rz3, by rw [List.length_map]; omega, by rw [List.length_map, List.length_map]; omega, by rw [List.length_map]; omega, hne q' okq q1 nmq, W3, W4, by decide, by decide, fun H4 s4 => ⟨_, rfl, fin H4 s4⟩⟩
  · exact .inr ⟨z2, z3, p.map (ev (2 ^ b)), q'.map (ev (2 ^ b)), 2000, rfl, rz.kt (Kt.of s3), rz3, by rw [List.length_map]; omega, by rw [List.length_map, List.length_map]; omega, by rw [List.length_map]; omega, hne p okp p1 nmp, W3, W4, by decide, by decide, fun H4 s4 => ⟨_, rfl, fin H4 s4⟩⟩
theorem scChk : FnScope ["poly"] ["poly"] (defScope sChk) := ⟨rfl, rfl, rfl, by decide +kernel, rfl, by decide +kernel, by decide +kernel⟩
theorem ok_chk (D : Def K mg "check_some_poly" sChk ["poly"]) (ci : Cal P w K mg base "is_poly" 3 ["value"] (spB polyB)) : Cal P w K mg base "check_some_poly" 4 ["poly"] spChk := by
  refine D.ok scChk (fun vs H Q E h => ?_) (fun f cdv A out s H vs Q E hr h => ?_)
  · obtain ⟨a, u, p, rfl, _⟩ := h; rfl
  obtain ⟨a, u, p, rfl, hw, hu, ⟨okp, p1, p4, lr, hN⟩, q⟩ := h
  refine ⟨_, pss_one (ps_if (PW.pt (pw_or (pt_not (pt_val (pe_cal ci hr (by omega) (by rfl) (pa_cons (pv 0) pa_nil)))) (pw_or1 (pt_not (pt_truth (pv 0) (by intro _; rfl)))))) pss_dead pss_nil), ?_⟩
  walk_at "rd"
  have bd : Bd 8 (2 ^ 88) p := ⟨by omega, fun r hr => ⟨by have := lr r hr; omega, fun c hc => by have := nm_mem hc; have := nm_le_sum hr; omega⟩⟩
  refine ⟨u, rfl, a, u, polyD p, 2, rfl, da_poly hw hu, (sm_poly bd).up (Nat.le_refl _) (by decide), fun H1 s1 => ⟨true, ?_, ?_⟩⟩
  · rw [polyB_ok okp]
  obtain ⟨pu, xs, rfl, eu, ru⟩ := hu
  refine iteF ⟨_, rfl, _, .inr (.inl ⟨_, SqT.of (s1 _ _ eu), rfl⟩), ?_⟩
  have : xs.isEmpty = false := by
    cases xs with
    | nil => have := ru.1; simp at this; omega
    | cons x l => rfl
  rw [this]
  exact iteF (q H1 s1)
theorem scRes : FnScope ["poly", "other"] ["poly", "other"] (defScope sRes) := ⟨rfl, rfl, rfl, by decide +kernel, rfl, by decide +kernel, by decide +kernel⟩
theorem ok_res (D : Def K mg "resultant" sRes ["poly", "other"]) (cc : Cal P w K mg base "check_some_poly" 4 ["poly"] spChk) (cp : Cal P w K mg base "poly_resultant" 37 ["one", "other"] spPRes) : Cal P w K mg base "resultant" 38 ["poly", "other"] spRes := by
  refine D.ok scRes (fun vs H Q E h => ?_) (fun f cdv A out s H vs Q E hr h => ?_)
  · obtain ⟨a, u, v, p, q, rfl, _⟩ := h; rfl
  obtain ⟨a, u, v, p, q', rfl, hw, hu, hv, gp, gq, q⟩ := h
  refine ⟨_, pss_cons (ps_expr (pe_cal cc hr (by omega) (by rfl) (pa_cons (pv 0) pa_nil))) (pss_cons (ps_expr (pe_cal cc hr (by omega) (by rfl) (pa_cons (pv 1) pa_nil)))
    (pss_one (ps_ret (pe_cal cp hr (by omega) (by rfl) (pa_cons (pv 0) (pa_cons (pv 1) pa_nil)))))), ?_⟩
  walk_at "rd"
  obtain ⟨pu, xs, rfl, eu, ru⟩ := hu
  obtain ⟨pw, ys, rfl, ew, rv⟩ := hv
  refine ⟨_, rfl, a, _, p, rfl, hw, ⟨pu, xs, rfl, eu, ru⟩, gp, fun H1 s1 => ?_⟩
  refine ⟨_, rfl, a, _, q', rfl, We.to s1 hw, ⟨pw, ys, rfl, s1 _ _ ew, rv.kt (Kt.of s1)⟩, gq, fun H2 s2 => ?_⟩
  have s12 := s1.trans s2
  exact ⟨_, rfl, _, rfl, _, _, p, q', rfl, ⟨pu, xs, rfl, s12 _ _ eu, ru.kt (Kt.of s12)⟩, ⟨pw, ys, rfl, s12 _ _ ew, rv.kt (Kt.of s12)⟩, gp, gq, fun z H3 s3 rz => q z H3 (s12.trans s3) rz⟩
end
end K25

set_option Elab.async false
set_option linter.all false
set_option maxRecDepth 100000
set_option maxHeartbeats 8000000
local macro_rules | `(tactic| walk_at "rd") => `(tactic| dsimp only [Evl.tCut, L2.tSeq, L2.tNext, L2.tRet, L2.tRetN, L2.tAsg, L2.gName, L2.tIfS, L2.tDrop, L2.tCons, L2.tNil, L2.tC, L2.tVar, L2.tCB, L2.tAndV, L2.tOrV, L2.tNotV, L2.tB, L2.tTest, L2.tOp, L2.tUn, L2.tNot, L2.tAnd, L2.tOr, L2.tIf, L2.tCall, L2.tTup, L2.tLst, L2.tNotT, L2.tYes, L2.gTup, L2.gCons, L2.gNil, L2.gSub, L2.tBM0, L2.tBM, L2.tWhile, L2.tFor, L2.iRng1, L2.iRng2, L2.tAugS, Tw.iEnumT, L2.tCKw, L2.tAug, L2.ipI, RT.iRevA, L2.iRevR, L2.tPar, L2.tPar3, L2.tSl, L2.tNoPart, L2.tPart, Tw.tRevT, L2.rAdd, L2.rSub, L2.tBits])
namespace K25
open PySem PySem.Spec PyProof.Rows L2 Tw
/-! the value of a row, the table of two POLYs -/
def spVal : Sp := fun vs H Q _ => ∃ (u : V) (r : List Int) (x : Int), vs = [u, .int x] ∧ Ro H u r ∧ r.length ≤ 100 ∧ nm r < 2 ^ 600 ∧ x.natAbs ≤ 64 ∧ ∀ H', Same H H' → Q (.int (ev x r)) H'
theorem ev_big {x : Int} (hx : x.natAbs ≤ 64) : ∀ r : List Int, (ev x r).natAbs ≤ nm r * 64 ^ r.length
  | [] => Nat.zero_le _
  | a :: r => by
    have ih := ev_big hx r
    rw [ev, nm, List.length_cons, Nat.pow_succ]
    have h1 : (a + x * ev x r).natAbs ≤ a.natAbs + x.natAbs * (ev x r).natAbs := by
      refine Nat.le_trans (Int.natAbs_add_le ..) ?_
      rw [Int.natAbs_mul]
      exact Nat.le_refl _
    have h2 : x.natAbs * (ev x r).natAbs ≤ 64 * (nm r * 64 ^ r.length) := Nat.mul_le_mul hx ih
    have h3 : a.natAbs * 1 ≤ a.natAbs * (64 ^ r.length * 64) := Nat.mul_le_mul_left _ (Nat.mul_pos (Nat.pow_pos (by decide)) (by decide))
    have h4 : (a.natAbs + nm r) * (64 ^ r.length * 64) = a.natAbs * (64 ^ r.length * 64) + 64 * (nm r * 64 ^ r.length) := by
      rw [Nat.add_mul, Nat.mul_comm 64, Nat.mul_assoc (nm r)]
    omega
theorem ev_wdc {x : Int} {c : Nat} (hx : x.natAbs ≤ 64) {r : List Int} (h : nm r < 2 ^ c) : Wd (c + 6 * r.length) (ev x r) := by
  unfold Wd
  refine Nat.lt_of_le_of_lt (ev_big hx r) ?_
  rw [Nat.pow_add, Nat.pow_mul]
  exact Nat.mul_lt_mul_of_lt_of_le h (Nat.le_refl _) (Nat.pow_pos (by decide))
theorem ev_drop {x : Int} {r : List Int} {k : Nat} (h : k < r.length) : ev x (r.drop (r.length - 1 - k)) = ev x (r.drop (r.length - k)) * x + g r (r.length - 1 - k) := by
  rw [List.drop_eq_getElem_cons (show r.length - 1 - k < r.length by omega), ev, g_some (by omega), show r.length - 1 - k + 1 = r.length - k by omega, Int.mul_comm x]
  omega
section
variable {P : Program} {w : World} {K : PySem.W.Frag} {mg : Str → Option Value} {base : Heap}
theorem scVal : FnScope ["_law_row_here", "_law_spot", "_law_made", "_law_k"] ["_law_row_here", "_law_spot"] (defScope sVal) := ⟨rfl, rfl, rfl, by decide +kernel, rfl, by decide +kernel, by decide +kernel⟩
theorem ok_val (D : Def K mg "_law_whole" sVal ["_law_row_here", "_law_spot"]) (nb : Nb mg) : Cal P w K mg base "_law_whole" 1 ["_law_row_here", "_law_spot"] spVal := by
  refine D.ok scVal (fun vs H Q E h => ?_) (fun f cdv A out s H vs Q E hr h => ?_)
  · obtain ⟨u, r, x, rfl, _⟩ := h; rfl
  obtain ⟨u, r, x, rfl, ⟨pu, rfl, eu⟩, l100, hn, hx, q⟩ := h
  refine ⟨_, pss_cons (ps_set (i := 2) scVal.nd rfl (Or.inl rfl) pe_int)
    (pss_cons (ps_for PassesOwn.never rfl (pi_range1 (by rfl) nb.rng (pa_cons (pe_callB (id := "len") (r := rLn K) call_len_seq (by rfl) nb.len PySem.boot_len (pa_cons (pv 0) pa_nil)) pa_nil)) (pg_name (i := 3) scVal.nd rfl (Or.inl rfl))
      (pss_one (ps_set (i := 2) scVal.nd rfl (Or.inl rfl) (pe_op op_add (pe_op op_mulW (pv 2) (pv 1)) (pe_ix (r := rIxT K) ix_tup (pv 0) (pe_op op_sub (pe_op op_sub (pe_callB (id := "len") (r := rLn K) call_len_seq (by rfl) nb.len PySem.boot_len (pa_cons (pv 0) pa_nil)) pe_int) (pv 3)) (fun _ _ => rfl))))))
    (pss_one (ps_ret (pv 2)))), ?_⟩
  walk_at "rd"
  refine ⟨.ref pu, rfl, pu, _, rfl, .inr (SqT.of eu), ((r.map V.int).length : Int), rfl, by omega, by rw [List.length_map]; omega, ?_⟩
  rw [List.length_map, Int.toNat_natCast]
  refine for_rng (lo := 0) (n := r.length) (fun i σ H' => ∃ (x3 : Option V), σ = [some (.ref pu), some (.int x), some (.int (ev x (r.drop (r.length - i)))), x3] ∧ H' = H) ?_ ?_ ?_
  · exact ⟨none, by rw [Nat.sub_zero, List.drop_length]; rfl, rfl⟩
  · rintro i σ H2 hi ⟨x3, rfl, rfl⟩
    walk_at "rd"
    have hw := ev_wdc (c := 600) hx (r := r.drop (r.length - i)) (Nat.lt_of_le_of_lt (nm_drop _ _) hn)
    have hl : (r.drop (r.length - i)).length ≤ 100 := by rw [List.length_drop]; omega
    refine ⟨_, rfl, _, rfl, _, _, rfl, rfl, Wd.cm (n := 1200) (m := 7) (hw.up (by omega)) (by show x.natAbs < 128; omega) (by decide), _, rfl, _, rfl, pu, _, rfl, .inr (SqT.of eu), _, _, rfl, rfl, _, rfl, _, _, rfl, rfl, pu, _, _, V.int (g r (r.length - 1 - i)), rfl, rfl, SqT.of eu, ?_, _, _, rfl, rfl, some (.int (0 + (i : Int))), ?_, rfl⟩
    · rw [List.length_map, show (r.length : Int) - 1 - (0 + (i : Int)) = ((r.length - 1 - i : Nat) : Int) by omega]
      refine atI_nat ?_
      rw [List.getElem?_map, List.getElem?_eq_getElem (show r.length - 1 - i < r.length by omega), g_some (by omega)]
      rfl
    · rw [show r.length - (i + 1) = r.length - 1 - i by omega, ev_drop hi]
      rfl
  · rintro σ H2 ⟨x3, rfl, rfl⟩
    refine ⟨_, rfl, ?_⟩
    rw [Nat.sub_self]
    exact q H2 (Same.refl _)
end
/-! lists of lists of ints in memory -/
def RwN (D : Addr) (H : Hp) (v : V) (l : List Int) : Prop := ∃ L, v = .ref L ∧ L ≠ D ∧ H L = some (.lst (l.map V.int))
theorem rwN_kp {D : Addr} {H H' : Hp} {xs : List V} {rs : List (List Int)} (k : Kp D H H') (h : RelA (RwN D) H xs rs) : RelA (RwN D) H' xs rs :=
  ⟨h.1, fun i v e => by
    obtain ⟨r, e2, L, rfl, n, e3⟩ := h.2 i v e
    exact ⟨r, e2, L, rfl, n, k _ _ n e3⟩⟩
theorem rwN_nil (D : Addr) (H : Hp) : RelA (RwN D) H [] [] := ⟨rfl, fun i v e => by simp at e⟩
/-- the values, the highest first -/
def vals (x : Int) (p : List (List Int)) : List Int := (List.range p.length).map fun k => ev x (rw' p (p.length - 1 - k))
def sylRow (f : List Int) (m k : Nat) : List Int := List.replicate k 0 ++ f ++ List.replicate (m - 1 - k) 0
def syl (x : Int) (p q : List (List Int)) : List (List Int) := (List.range (q.length - 1)).map (sylRow (vals x p) (q.length - 1)) ++ (List.range (p.length - 1)).map (sylRow (vals x q) (p.length - 1))
def Fine (p : List (List Int)) : Prop := 1 ≤ p.length ∧ p.length ≤ 4 ∧ ∀ r ∈ p, r.length ≤ 100 ∧ nm r < 2 ^ 600
def spTab : Sp := fun vs H Q _ => ∃ (u v : V) (p q : List (List Int)) (x : Int), vs = [u, v, .int x] ∧ Po H u p ∧ Po H v q ∧ Fine p ∧ Fine q ∧ x.natAbs ≤ 64 ∧ ∀ D xs H', Same H H' → H' D = some (.lst xs) → RelA (RwN D) H' xs (syl x p q) → Q (.ref D) H'
theorem vals_len (x : Int) (p : List (List Int)) : (vals x p).length = p.length := by unfold vals; rw [List.length_map, List.length_range]
section
variable {P : Program} {w : World} {K : PySem.W.Frag} {mg : Str → Option Value} {base : Heap}
/-- one row is put behind -/
theorem row_put {σ : L2.St} {H : Hp} {R : VK} {F : Addr} {f : List Int} {m k : Nat} {tk tf tm : TE} (hk : ∀ H' (Q : VK), Same H H' → Q (.int ((k : Nat) : Int)) H' → tk σ H' Q) (hf : ∀ H' (Q : VK), Same H H' → Q (.ref F) H' → tf σ H' Q)
    (hm : ∀ H' (Q : VK), Same H H' → Q (.int ((m - 1 - k : Nat) : Int)) H' → tm σ H' Q) (eF : H F = some (.lst (f.map V.int))) (lf : f.length ≤ 10) (lm : m ≤ 10) (lk : k ≤ 10)
    (q : ∀ L H', Same H H' → H L = none → H' L = some (.lst ((sylRow f m k).map V.int)) → R (.ref L) H') :
    tOp rCat (tOp rCat (tOp rRep (tLst (tCons (tC (.int 0)) tNil)) tk) tf) (tOp rRep (tLst (tCons (tC (.int 0)) tNil)) tm) σ H R := by
  walk_at "rd"
  refine ⟨sz (by simp), fun L1 n1 => ?_⟩
  have s1 := same_new (o := .lst [.int 0]) n1
  refine hk _ _ s1 ?_
  refine ⟨L1, k, [.int 0], rfl, rfl, upd_same, by omega, by omega, sz (by simp; omega), fun L2 n2 => ?_⟩
  have s2 := s1.trans (same_new (o := .lst (List.replicate ((k : Nat) : Int).toNat [V.int 0]).flatten) n2)
  refine hf _ _ s2 ?_
  refine ⟨L2, F, _, _, rfl, rfl, upd_same, s2 _ _ eF, sz (by rw [flat_one, List.length_replicate, List.length_map]; omega), fun L3 n3 => ?_⟩
  have eq1 : (List.replicate ((k : Nat) : Int).toNat [V.int 0]).flatten ++ f.map V.int = (List.replicate k (0 : Int) ++ f).map V.int := by
    rw [flat_one, Int.toNat_natCast, List.map_append, List.map_replicate]
  have eq2 : (List.replicate ((m - 1 - k : Nat) : Int).toNat [V.int 0]).flatten = (List.replicate (m - 1 - k) (0 : Int)).map V.int := by
    rw [flat_one, Int.toNat_natCast, List.map_replicate]
  rw [eq1]
  have s3 := s2.trans (same_new (o := .lst ((List.replicate k (0 : Int) ++ f).map V.int)) n3)
  have e3 := upd_same (H := upd (upd H L1 (.lst [.int 0])) L2 (.lst (List.replicate ((k : Nat) : Int).toNat [V.int 0]).flatten)) (a := L3) (o := .lst ((List.replicate k (0 : Int) ++ f).map V.int))
  generalize upd (upd (upd H L1 (.lst [.int 0])) L2 (.lst (List.replicate ((k : Nat) : Int).toNat [V.int 0]).flatten)) L3 (.lst ((List.replicate k (0 : Int) ++ f).map V.int)) = H3 at s3 e3 ⊢
  clear s1 s2 n1 n2 n3
  refine ⟨sz (by simp), fun L4 n4 => ?_⟩
  have t4 := same_new (o := .lst [.int 0]) n4
  refine hm _ _ (s3.trans t4) ?_
  refine ⟨L4, _, [.int 0], rfl, rfl, upd_same, by omega, by omega, sz (by simp; omega), fun L5 n5 => ?_⟩
  rw [eq2]
  have t5 := t4.trans (same_new (o := .lst ((List.replicate (m - 1 - k) (0 : Int)).map V.int)) n5)
  refine ⟨L3, L5, _, _, rfl, rfl, t5 _ _ e3, upd_same, sz (by simp; omega), fun L6 n6 => ?_⟩
  have t6 := (s3.trans t5).trans (same_new (o := .lst ((List.replicate k (0 : Int) ++ f).map V.int ++ (List.replicate (m - 1 - k) (0 : Int)).map V.int)) n6)
  refine q L6 _ t6 ((s3.trans t5).free n6) ?_
  rw [upd_same, ← List.map_append]
  rfl
end
section
variable {P : Program} {w : World} {K : PySem.W.Frag} {mg : Str → Option Value} {base : Heap}
theorem scTab : FnScope ["_law_one", "_law_two", "_law_spot", "_law_far", "_law_k", "_law_high", "_law_n", "_law_m", "_law_made"] ["_law_one", "_law_two", "_law_spot"] (defScope sTab) := ⟨rfl, rfl, rfl, by decide +kernel, rfl, by decide +kernel, by decide +kernel⟩
theorem ok_tab (D : Def K mg "_law_table" sTab ["_law_one", "_law_two", "_law_spot"]) (nb : Nb mg) (cv : Cal P w K mg base "_law_whole" 1 ["_law_row_here", "_law_spot"] spVal) : Cal P w K mg base "_law_table" 2 ["_law_one", "_law_two", "_law_spot"] spTab := by
  refine D.ok scTab (fun vs H Q E h => ?_) (fun f cdv A out s H vs Q E hr h => ?_)
  · obtain ⟨u, v, p, q, x, rfl, _⟩ := h; rfl
  obtain ⟨u, v, p, q', x, rfl, ⟨pu, us, rfl, eu, ru⟩, ⟨pw, ws, rfl, ew, rv⟩, ⟨p1, p4, hp⟩, ⟨q1, q4, hq⟩, hx, q⟩ := h
  refine ⟨_, Evl.pss_cut (ps_setLc (i := 3) (own := [("_law_k", 4)]) (g := gName 4) (tt := tYes) rfl scTab.nd rfl rfl (by rfl) (pi_range1 (by rfl) nb.rng (pa_cons (pe_callB (id := "len") (r := rLn K) call_len_seq (by rfl) nb.len PySem.boot_len (pa_cons (pv 0) pa_nil)) pa_nil)) (blkOk_by (N := ["_law_one", "_law_two", "_law_spot", "_law_far", "_law_k", "_law_high", "_law_n", "_law_m", "_law_made"]) (sc := defScope sTab) (by decide +kernel)) (fun _ _ _ _ _ => pg_name (i := 4) scTab.nd rfl (Or.inl rfl)) (fun _ _ _ _ _ => pts_nil) (fun _ _ _ _ _ => (pe_cal cv hr (by omega) (by rfl) (pa_cons (pe_ix (r := rIxT K) ix_tup (pv 0) (pe_op op_sub (pe_op op_sub (pe_callB (id := "len") (r := rLn K) call_len_seq (by rfl) nb.len PySem.boot_len (pa_cons (pv 0) pa_nil)) pe_int) (pv 4)) (fun _ _ => rfl)) (pa_cons (pv 2) pa_nil)))))
    (Evl.pss_cut (ps_setLc (i := 5) (own := [("_law_k", 4)]) (g := gName 4) (tt := tYes) rfl scTab.nd rfl rfl (by rfl) (pi_range1 (by rfl) nb.rng (pa_cons (pe_callB (id := "len") (r := rLn K) call_len_seq (by rfl) nb.len PySem.boot_len (pa_cons (pv 1) pa_nil)) pa_nil)) (blkOk_by (N := ["_law_one", "_law_two", "_law_spot", "_law_far", "_law_k", "_law_high", "_law_n", "_law_m", "_law_made"]) (sc := defScope sTab) (by decide +kernel)) (fun _ _ _ _ _ => pg_name (i := 4) scTab.nd rfl (Or.inl rfl)) (fun _ _ _ _ _ => pts_nil) (fun _ _ _ _ _ => (pe_cal cv hr (by omega) (by rfl) (pa_cons (pe_ix (r := rIxT K) ix_tup (pv 1) (pe_op op_sub (pe_op op_sub (pe_callB (id := "len") (r := rLn K) call_len_seq (by rfl) nb.len PySem.boot_len (pa_cons (pv 1) pa_nil)) pe_int) (pv 4)) (fun _ _ => rfl)) (pa_cons (pv 2) pa_nil)))))
    (Evl.pss_cut (ps_par3 (i := 6) (j := 7) (l := 8) rfl scTab.nd rfl rfl rfl (by decide) (by decide) (by decide) rfl rfl rfl (pa_cons (pe_op op_sub (pe_callB (id := "len") (r := rLn K) call_len_seq (by rfl) nb.len PySem.boot_len (pa_cons (pv 0) pa_nil)) pe_int) (pa_cons (pe_op op_sub (pe_callB (id := "len") (r := rLn K) call_len_seq (by rfl) nb.len PySem.boot_len (pa_cons (pv 1) pa_nil)) pe_int) (pa_cons (pe_lst pa_nil) pa_nil))) rfl)
    (Evl.pss_cut (ps_for PassesOwn.never rfl (pi_range1 (by rfl) nb.rng (pa_cons (pv 7) pa_nil)) (pg_name (i := 4) scTab.nd rfl (Or.inl rfl))
      (pss_one (ps_expr (pe_bm PySem.F.plainAttrs_list PySem.F.slot_list_append PySem.F.type_list_append mt_append (pv 8) (pa_cons (pe_op op_cat (pe_op op_cat (pe_op op_rep (pe_lst (pa_cons pe_int pa_nil)) (pv 4)) (pv 3)) (pe_op op_rep (pe_lst (pa_cons pe_int pa_nil)) (pe_op op_sub (pe_op op_sub (pv 7) pe_int) (pv 4)))) pa_nil)))))
    (Evl.pss_cut (ps_for PassesOwn.never rfl (pi_range1 (by rfl) nb.rng (pa_cons (pv 6) pa_nil)) (pg_name (i := 4) scTab.nd rfl (Or.inl rfl))
      (pss_one (ps_expr (pe_bm PySem.F.plainAttrs_list PySem.F.slot_list_append PySem.F.type_list_append mt_append (pv 8) (pa_cons (pe_op op_cat (pe_op op_cat (pe_op op_rep (pe_lst (pa_cons pe_int pa_nil)) (pv 4)) (pv 5)) (pe_op op_rep (pe_lst (pa_cons pe_int pa_nil)) (pe_op op_sub (pe_op op_sub (pv 6) pe_int) (pv 4)))) pa_nil)))))
    (pss_one (ps_ret (pv 8))))))), ?_⟩
  walk_at "rd"
  have lu := ru.1
  have lw := rv.1
  refine ⟨fun σ H' => ∃ F, σ = [some (.ref pu), some (.ref pw), some (.int x), some (.ref F), none, none, none, none, none] ∧ Same H H' ∧ H' F = some (.lst ((vals x p).map V.int)), ?_, ?_⟩
  · refine lc_rng (n := p.length) (fun i => V.int (ev x (rw' p (p.length - 1 - i)))) (fun R hR => ?_) (by omega) (fun x => rfl) (fun i H1 hi s1 R hR => ?_) (fun D H1 s1 nD e1 => ?_)
    · refine ⟨.ref pu, rfl, pu, _, rfl, .inr (SqT.of eu), (us.length : Int), rfl, by omega, by omega, ?_⟩
      rw [lu, Int.toNat_natCast]
      exact hR
    · obtain ⟨vi, ei, ri⟩ := ru.get (k := p.length - 1 - i) (by omega)
      rw [← rw_some (show p.length - 1 - i < p.length by omega)] at ri
      have hm := hp _ (mem_len (show p.length - 1 - i < p.length by omega))
      walk_at "rd"
      refine ⟨_, rfl, _, rfl, pu, _, rfl, .inr (SqT.of (s1 _ _ eu)), _, _, rfl, rfl, _, rfl, _, _, rfl, rfl, pu, _, _, vi, rfl, rfl, SqT.of (s1 _ _ eu), ?_, _, rfl, vi, rw' p (p.length - 1 - i), x, rfl, ri.kt (Kt.of s1), hm.1, hm.2, hx, fun H2 s2 => hR H2 s2⟩
      rw [lu, show (p.length : Int) - 1 - (0 + (i : Int)) = ((p.length - 1 - i : Nat) : Int) by omega]
      exact atI_nat ei
    · refine ⟨D, rfl, s1, ?_⟩
      rw [e1]
      unfold vals
      rw [List.map_map]
      rfl
  rintro σ1 H1 ⟨F, rfl, s1, eF⟩
  refine ⟨fun σ H' => ∃ G, σ = [some (.ref pu), some (.ref pw), some (.int x), some (.ref F), none, some (.ref G), none, none, none] ∧ Same H1 H' ∧ H' G = some (.lst ((vals x q').map V.int)), ?_, ?_⟩
  · refine lc_rng (n := q'.length) (fun i => V.int (ev x (rw' q' (q'.length - 1 - i)))) (fun R hR => ?_) (by omega) (fun x => rfl) (fun i H2 hi s2 R hR => ?_) (fun D H2 s2 nD e1 => ?_)
    · refine ⟨.ref pw, rfl, pw, _, rfl, .inr (SqT.of (s1 _ _ ew)), (ws.length : Int), rfl, by omega, by omega, ?_⟩
      rw [lw, Int.toNat_natCast]
      exact hR
    · obtain ⟨vi, ei, ri⟩ := rv.get (k := q'.length - 1 - i) (by omega)
      rw [← rw_some (show q'.length - 1 - i < q'.length by omega)] at ri
      have hm := hq _ (mem_len (show q'.length - 1 - i < q'.length by omega))
      have s12 := s1.trans s2
      walk_at "rd"
      refine ⟨_, rfl, _, rfl, pw, _, rfl, .inr (SqT.of (s12 _ _ ew)), _, _, rfl, rfl, _, rfl, _, _, rfl, rfl, pw, _, _, vi, rfl, rfl, SqT.of (s12 _ _ ew), ?_, _, rfl, vi, rw' q' (q'.length - 1 - i), x, rfl, ri.kt (Kt.of s12), hm.1, hm.2, hx, fun H2 s2 => hR H2 s2⟩
      rw [lw, show (q'.length : Int) - 1 - (0 + (i : Int)) = ((q'.length - 1 - i : Nat) : Int) by omega]
      exact atI_nat ei
    · refine ⟨D, rfl, s2, ?_⟩
      rw [e1]
      unfold vals
      rw [List.map_map]
      rfl
  rintro σ2 H2 ⟨G, rfl, s2, eG⟩
  have eF2 := s2 _ _ eF
  have s02 := s1.trans s2
  have eu2 := s02 _ _ eu
  have ew2 := s02 _ _ ew
  obtain ⟨n, hn⟩ : ∃ n, p.length = n + 1 := ⟨p.length - 1, by omega⟩
  obtain ⟨m, hm⟩ : ∃ m, q'.length = m + 1 := ⟨q'.length - 1, by omega⟩
  refine ⟨fun σ H' => ∃ M, σ = [some (.ref pu), some (.ref pw), some (.int x), some (.ref F), none, some (.ref G), some (.int (n : Int)), some (.int (m : Int)), some (.ref M)] ∧ Same H2 H' ∧ H2 M = none ∧ H' M = some (.lst []), ?_, ?_⟩
  · refine ⟨_, rfl, pu, _, rfl, .inr (SqT.of eu2), _, _, rfl, rfl, _, rfl, pw, _, rfl, .inr (SqT.of ew2), _, _, rfl, rfl, sz (by decide), fun M nM => ⟨_, _, _, rfl, M, ?_, same_new nM, nM, upd_same⟩⟩
    rw [lu, lw, hn, hm]
    show [_, _, _, _, none, _, some (V.int (((n + 1 : Nat) : Int) - 1)), some (V.int (((m + 1 : Nat) : Int) - 1)), _] = _
    rw [show (((n + 1 : Nat) : Int) - 1) = (n : Int) by omega, show (((m + 1 : Nat) : Int) - 1) = (m : Int) by omega]
  rintro σ3 H3 ⟨M, rfl, s3, nM, eM⟩
  have eF3 := s3 _ _ eF2
  have eG3 := s3 _ _ eG
  have FM : F ≠ M := fun z => by rw [z, nM] at eF2; cases eF2
  have GM : G ≠ M := fun z => by rw [z, nM] at eG; cases eG
  refine ⟨fun σ H' => ∃ x4 xs, σ = [some (.ref pu), some (.ref pw), some (.int x), some (.ref F), x4, some (.ref G), some (.int (n : Int)), some (.int (m : Int)), some (.ref M)] ∧ Kp M H3 H' ∧ Same H2 H' ∧ H' M = some (.lst xs) ∧ RelA (RwN M) H' xs ((List.range m).map (sylRow (vals x p) m)), ?_, ?_⟩
  · refine ⟨_, rfl, (m : Int), rfl, by omega, by omega, ?_⟩
    rw [Int.toNat_natCast]
    refine for_rng (lo := 0) (n := m) (fun i σ H' => ∃ x4 xs, σ = [some (.ref pu), some (.ref pw), some (.int x), some (.ref F), x4, some (.ref G), some (.int (n : Int)), some (.int (m : Int)), some (.ref M)] ∧ Kp M H3 H' ∧ Same H2 H' ∧ H' M = some (.lst xs) ∧ RelA (RwN M) H' xs ((List.range i).map (sylRow (vals x p) m))) ?_ ?_ ?_
    · exact ⟨none, [], rfl, Kp.refl _ _, s3, eM, rwN_nil _ _⟩
    · rintro i σ H4 hi ⟨x4, xs, rfl, k4, s4, e4, r4⟩
      walk_at "rd"
      refine ⟨.ref M, rfl, .inl ⟨rfl, _, SqL.of e4⟩, ?_⟩
      refine row_put (k := i) (m := m) (F := F) (f := vals x p) (tk := L2.tVar 4) (tf := L2.tVar 3) (tm := L2.tOp (rI0 fun i j => .int (i - j)) (L2.tOp (rI0 fun i j => .int (i - j)) (L2.tVar 7) (L2.tC (.int 1))) (L2.tVar 4)) (fun H' Q _ hQ => ⟨_, rfl, ?_⟩) (fun H' Q _ hQ => ⟨_, rfl, hQ⟩) (fun H' Q _ hQ => ⟨_, rfl, _, _, rfl, rfl, _, rfl, _, _, rfl, rfl, ?_⟩) (k4 _ _ FM eF3) (by rw [vals_len]; omega) (by omega) (by omega) (fun L H5 s5 nL eL => ?_)
      · rw [Int.zero_add]; exact hQ
      · show Q (V.int ((m : Int) - 1 - (0 + (i : Int)))) H'
        rw [show (m : Int) - 1 - (0 + (i : Int)) = ((m - 1 - i : Nat) : Int) by omega]
        exact hQ
      have LM : L ≠ M := fun z => by rw [z, e4] at nL; cases nL
      have lx := r4.1
      rw [List.length_map, List.length_range] at lx
      refine ⟨M, xs, .ref L, rfl, rfl, s5 _ _ e4, lt_line (by omega), some (.int (0 + (i : Int))), xs ++ [.ref L], rfl, ?_, ?_, upd_same, ?_⟩
      · exact fun b o nb eb => by rw [upd_ne nb]; exact s5 _ _ (k4 b o nb eb)
      · exact same_upd (s4.trans s5) nM
      · rw [List.range_succ, List.map_append]
        refine RelA.snoc (rwN_kp (fun b o nb eb => by rw [upd_ne nb]; exact s5 _ _ eb) r4) ⟨L, rfl, LM, ?_⟩
        rw [upd_ne LM]; exact eL
    · rintro σ H4 h
      exact h
  rintro σ4 H4 ⟨x4, xs, rfl, k4, s4, e4, r4⟩
  refine ⟨fun σ H' => ∃ x4 xs, σ = [some (.ref pu), some (.ref pw), some (.int x), some (.ref F), x4, some (.ref G), some (.int (n : Int)), some (.int (m : Int)), some (.ref M)] ∧ Kp M H3 H' ∧ Same H2 H' ∧ H' M = some (.lst xs) ∧ RelA (RwN M) H' xs ((List.range m).map (sylRow (vals x p) m) ++ (List.range n).map (sylRow (vals x q') n)), ?_, ?_⟩
  · refine ⟨_, rfl, (n : Int), rfl, by omega, by omega, ?_⟩
    rw [Int.toNat_natCast]
    refine for_rng (lo := 0) (n := n) (fun i σ H' => ∃ x4 xs, σ = [some (.ref pu), some (.ref pw), some (.int x), some (.ref F), x4, some (.ref G), some (.int (n : Int)), some (.int (m : Int)), some (.ref M)] ∧ Kp M H3 H' ∧ Same H2 H' ∧ H' M = some (.lst xs) ∧ RelA (RwN M) H' xs ((List.range m).map (sylRow (vals x p) m) ++ (List.range i).map (sylRow (vals x q') n))) ?_ ?_ ?_
    · exact ⟨x4, xs, rfl, k4, s4, e4, by simpa using r4⟩
    · rintro i σ H4 hi ⟨x4, xs, rfl, k4, s4, e4, r4⟩
      walk_at "rd"
      refine ⟨.ref M, rfl, .inl ⟨rfl, _, SqL.of e4⟩, ?_⟩
      refine row_put (k := i) (m := n) (F := G) (f := vals x q') (tk := L2.tVar 4) (tf := L2.tVar 5) (tm := L2.tOp (rI0 fun i j => .int (i - j)) (L2.tOp (rI0 fun i j => .int (i - j)) (L2.tVar 6) (L2.tC (.int 1))) (L2.tVar 4)) (fun H' Q _ hQ => ⟨_, rfl, ?_⟩) (fun H' Q _ hQ => ⟨_, rfl, hQ⟩) (fun H' Q _ hQ => ⟨_, rfl, _, _, rfl, rfl, _, rfl, _, _, rfl, rfl, ?_⟩) (k4 _ _ GM eG3) (by rw [vals_len]; omega) (by omega) (by omega) (fun L H5 s5 nL eL => ?_)
      · rw [Int.zero_add]; exact hQ
      · show Q (V.int ((n : Int) - 1 - (0 + (i : Int)))) H'
        rw [show (n : Int) - 1 - (0 + (i : Int)) = ((n - 1 - i : Nat) : Int) by omega]
        exact hQ
      have LM : L ≠ M := fun z => by rw [z, e4] at nL; cases nL
      have lx := r4.1
      rw [List.length_append, List.length_map, List.length_range, List.length_map, List.length_range] at lx
      refine ⟨M, xs, .ref L, rfl, rfl, s5 _ _ e4, lt_line (by omega), some (.int (0 + (i : Int))), xs ++ [.ref L], rfl, ?_, ?_, upd_same, ?_⟩
      · exact fun b o nb eb => by rw [upd_ne nb]; exact s5 _ _ (k4 b o nb eb)
      · exact same_upd (s4.trans s5) nM
      · rw [List.range_succ, List.map_append, ← List.append_assoc]
        refine RelA.snoc (rwN_kp (fun b o nb eb => by rw [upd_ne nb]; exact s5 _ _ eb) r4) ⟨L, rfl, LM, ?_⟩
        rw [upd_ne LM]; exact eL
    · rintro σ H4 h
      exact h
  rintro σ5 H5 ⟨x5, ys, rfl, k5, s5, e5, r5⟩
  refine ⟨_, rfl, q M ys H5 (s02.trans s5) e5 ?_⟩
  unfold syl
  rw [hn, hm, Nat.add_sub_cancel, Nat.add_sub_cancel]
  exact r5
end
end K25

set_option Elab.async false
set_option linter.all false
set_option maxRecDepth 100000
set_option maxHeartbeats 4000000
/-! the law's way to a determinant, as steps on lists of rows -/
namespace K25
def bb : Nat → Nat
  | 0 => 1000
  | k + 1 => 2 * bb k + 1
theorem bb_le : ∀ {k : Nat}, k ≤ 6 → bb k ≤ 70000
  | 0, _ => by decide
  | 1, _ => by decide
  | 2, _ => by decide
  | 3, _ => by decide
  | 4, _ => by decide
  | 5, _ => by decide
  | 6, _ => by decide
theorem bb_ge : ∀ k, 1000 ≤ bb k
  | 0 => Nat.le_refl _
  | k + 1 => by have := bb_ge k; rw [bb]; omega
def blk (rows : List (List Int)) (k : Nat) : Mx := fun i j => g (rw' rows (k + i)) (k + j)
def nw (rows : List (List Int)) (k : Nat) (last : Int) (N i : Nat) : List Int := (List.range N).map fun j => (g (rw' rows i) j * g (rw' rows k) k - g (rw' rows i) k * g (rw' rows k) j).fdiv last
def elm (rows : List (List Int)) (k : Nat) (last : Int) (N n : Nat) : List (List Int) := (List.range N).map fun i => if k < i ∧ i < n then nw rows k last N i else rw' rows i
structure Bar (D : Int) (N k : Nat) (rows : List (List Int)) (side last : Int) : Prop where
  len : rows.length = N
  lens : ∀ l ∈ rows, l.length = N
  wd : ∀ l ∈ rows, WdA (bb k) l
  sd : side = 1 ∨ side = -1
  nz : last ≠ 0
  wl : Wd (bb k) last
  inv : Inv last (N - k) (blk rows k)
  val : if k < N then det (N - k) (blk rows k) = side * D * last ^ (N - k - 1) else last = side * D
theorem g_range {N j : Nat} {f : Nat → Int} (h : j < N) : g ((List.range N).map f) j = f j := by
  rw [g_some (by rw [List.length_map, List.length_range]; exact h), List.getElem_map, List.getElem_range]
theorem rw_range {N i : Nat} {f : Nat → List Int} (h : i < N) : rw' ((List.range N).map f) i = f i := by
  rw [rw_some (by rw [List.length_map, List.length_range]; exact h), List.getElem_map, List.getElem_range]
theorem bar_start {rows : List (List Int)} {N : Nat} (h1 : rows.length = N) (h2 : ∀ l ∈ rows, l.length = N) (h3 : ∀ l ∈ rows, WdA 1000 l) : Bar (det N (blk rows 0)) N 0 rows 1 1 := by
  refine ⟨h1, h2, h3, .inl rfl, by decide, by show 1 < 2 ^ 1000; exact Nat.one_lt_two_pow (by decide), inv_one, ?_⟩
  split
  · rw [Int.one_pow, Int.one_mul, Int.mul_one]; rfl
  · have : N = 0 := by omega
    subst this
    rfl
theorem bar_end {D : Int} {N : Nat} {rows : List (List Int)} {side last : Int} (b : Bar D N N rows side last) : side * last = D := by
  have v := b.val
  rw [if_neg (by omega)] at v
  rw [v]
  rcases b.sd with h | h <;> rw [h] <;> omega
theorem bar_zero {D : Int} {N k : Nat} {rows : List (List Int)} {side last : Int} (b : Bar D N k rows side last) (hk : k < N) (z : ∀ i, k ≤ i → i < N → g (rw' rows i) k = 0) : D = 0 := by
  have v := b.val
  rw [if_pos hk] at v
  obtain ⟨s, hs⟩ : ∃ s, N - k = s + 1 := ⟨N - k - 1, by omega⟩
  rw [hs, det_none fun i hi => z (k + i) (by omega) (by omega)] at v
  have h2 := Int.mul_eq_zero.mp v.symm
  rcases h2 with h2 | h2
  · rcases b.sd with h | h <;> rw [h] at h2 <;> omega
  · exact absurd h2 (Int.pow_ne_zero b.nz)
theorem rw_setL {rows : List (List Int)} {t i : Nat} {l : List Int} (h : t < rows.length) : rw' (rows.set t l) i = if i = t then l else rw' rows i := by
  unfold rw'
  rw [List.getD_eq_getElem?_getD, List.getD_eq_getElem?_getD, List.getElem?_set]
  by_cases c : t = i
  · subst c; rw [if_pos rfl, if_pos h, if_pos rfl]; rfl
  · rw [if_neg c, if_neg (fun z => c z.symm)]
def swp (rows : List (List Int)) (k t : Nat) : List (List Int) := (rows.set k (rw' rows t)).set t (rw' rows k)
theorem swp_rw {rows : List (List Int)} {k t i : Nat} (hk : k < rows.length) (ht : t < rows.length) : rw' (swp rows k t) i = if i = t then rw' rows k else if i = k then rw' rows t else rw' rows i := by
  unfold swp
  rw [rw_setL (by rw [List.length_set]; exact ht), rw_setL hk]
theorem swp_mem {rows : List (List Int)} {k t : Nat} (hk : k < rows.length) (ht : t < rows.length) : ∀ l ∈ swp rows k t, l ∈ rows := fun l hl => by
  rcases List.mem_or_eq_of_mem_set hl with h | h
  · rcases List.mem_or_eq_of_mem_set h with h | h
    · exact h
    · rw [h]; exact mem_len ht
  · rw [h]; exact mem_len hk
theorem bar_swap {D : Int} {N k t : Nat} {rows : List (List Int)} {side last : Int} (b : Bar D N k rows side last) (hk : k < t) (ht : t < N) : Bar D N k (swp rows k t) (0 - side) last := by
  have lk : k < rows.length := by rw [b.len]; omega
  have lt : t < rows.length := by rw [b.len]; omega
  have hp : ∀ i, i < N - k → (fun i => if i = 0 then t - k else if i = t - k then 0 else i) i < N - k := fun i hi => by
    dsimp only
    split
    · omega
    · split <;> omega
  have eB : ∀ i j, i < N - k → j < N - k → (fun i => blk rows k ((fun i => if i = 0 then t - k else if i = t - k then 0 else i) i)) i j = blk (swp rows k t) k i j := fun i j hi hj => by
    unfold blk
    rw [swp_rw lk lt]
    dsimp only
    by_cases c : i = 0
    · subst c
      rw [if_pos rfl, if_neg (by omega), if_pos (by omega), show k + (t - k) = t by omega]
    · rw [if_neg c]
      by_cases d : i = t - k
      · rw [if_pos d, if_pos (by omega), show k + 0 = k by omega]
      · rw [if_neg d, if_neg (by omega), if_neg (by omega)]
  refine ⟨by unfold swp; rw [List.length_set, List.length_set]; exact b.len, fun l hl => b.lens l (swp_mem lk lt l hl), fun l hl => b.wd l (swp_mem lk lt l hl), ?_, b.nz, b.wl, inv_ext (inv_perm b.inv _ hp) eB, ?_⟩
  · rcases b.sd with h | h <;> rw [h]
    · right; rfl
    · left; rfl
  · have v := b.val
    rw [if_pos (by omega)] at v ⊢
    have e : det (N - k) (blk (swp rows k t) k) = det (N - k) (ex (blk rows k) 0 (t - k - 1 + 1)) := by
      refine det_ext fun i j hi hj => ?_
      rw [← eB i j hi hj]
      rw [show t - k - 1 + 1 = t - k by omega]
      unfold ex
      dsimp only
      by_cases c : i = 0
      · subst c
        rw [if_pos rfl, up_ne (by omega), up_at]
      · rw [if_neg c]
        by_cases d : i = t - k
        · subst d; rw [if_pos rfl, up_at]
        · rw [if_neg d, up_ne d, up_ne c]
    rw [e, det_ex (by omega), v]
    grind
theorem elm_rw {rows : List (List Int)} {k N n i : Nat} {last : Int} (h : i < N) : rw' (elm rows k last N n) i = if k < i ∧ i < n then nw rows k last N i else rw' rows i := by
  unfold elm
  rw [rw_range h]
theorem elm_len (rows : List (List Int)) (k N n : Nat) (last : Int) : (elm rows k last N n).length = N := by unfold elm; rw [List.length_map, List.length_range]
theorem nw_len (rows : List (List Int)) (k N i : Nat) (last : Int) : (nw rows k last N i).length = N := by unfold nw; rw [List.length_map, List.length_range]
theorem elm_start {rows : List (List Int)} {k N : Nat} {last : Int} (h : rows.length = N) : elm rows k last N (k + 1) = rows := by
  refine List.ext_getElem (by rw [elm_len, h]) fun i h1 h2 => ?_
  have := elm_rw (rows := rows) (k := k) (n := k + 1) (last := last) (i := i) (N := N) (by rw [← h]; exact h2)
  rw [if_neg (by omega), rw_some h1, rw_some h2] at this
  exact this
theorem elm_next {rows : List (List Int)} {k N n : Nat} {last : Int} (hk : k < n) (hn : n < N) : elm rows k last N (n + 1) = (elm rows k last N n).set n (nw rows k last N n) := by
  refine List.ext_getElem (by rw [List.length_set, elm_len, elm_len]) fun i h1 h2 => ?_
  rw [elm_len] at h1
  have a := elm_rw (rows := rows) (k := k) (n := n + 1) (last := last) (i := i) h1
  have b := elm_rw (rows := rows) (k := k) (n := n) (last := last) (i := i) h1
  rw [rw_some (by rw [elm_len]; exact h1)] at a b
  rw [a, List.getElem_set]
  by_cases c : n = i
  · subst c; rw [if_pos rfl, if_pos (by omega)]
  · rw [if_neg c, b]
    by_cases d : k < i ∧ i < n
    · rw [if_pos d, if_pos (by omega)]
    · rw [if_neg d, if_neg (by omega)]
theorem nw_wd {D : Int} {N k : Nat} {rows : List (List Int)} {side last : Int} (b : Bar D N k rows side last) (hk : k < N) {i : Nat} (hi : i < N) : WdA (bb (k + 1)) (nw rows k last N i) := fun c hc => by
  obtain ⟨j, hj, rfl⟩ := List.mem_map.mp hc
  have wi := b.wd _ (mem_len (show i < rows.length by rw [b.len]; exact hi))
  have wk := b.wd _ (mem_len (show k < rows.length by rw [b.len]; exact hk))
  refine Wd.fdiv ?_ b.nz
  exact ((Wd.sub ((wi.g j).mul (wk.g k)) ((wi.g k).mul (wk.g j))).up (by rw [bb]; omega))
theorem bar_step {D : Int} {N k : Nat} {rows : List (List Int)} {side last : Int} (b : Bar D N k rows side last) (hk : k < N) (hp : g (rw' rows k) k ≠ 0) : Bar D N (k + 1) (elm rows k last N N) side (g (rw' rows k) k) := by
  obtain ⟨s, hs⟩ : ∃ s, N - k = s + 1 := ⟨N - k - 1, by omega⟩
  have hs2 : N - (k + 1) = s := by omega
  have inv := b.inv
  rw [hs] at inv
  have e00 : blk rows k 0 0 = g (rw' rows k) k := rfl
  have hC : ∀ i j, i < s → j < s → ch (blk rows k) i j = last * blk (elm rows k last N N) (k + 1) i j := fun i j hi hj => by
    have dv := inv_dvd inv hi hj
    have e : blk (elm rows k last N N) (k + 1) i j = (ch (blk rows k) i j).fdiv last := by
      unfold blk
      rw [elm_rw (by omega), if_pos (by omega)]
      unfold nw
      rw [g_range (by omega)]
      unfold ch
      rw [show k + 1 + i = k + (i + 1) by omega, show k + 1 + j = k + (j + 1) by omega]
      rfl
    rw [e]
    obtain ⟨w, hw⟩ := dv
    rw [hw, Int.mul_fdiv_cancel_left _ b.nz]
  refine ⟨elm_len .., fun l hl => ?_, fun l hl => ?_, b.sd, hp, (b.wd _ (mem_len (by rw [b.len]; exact hk))).g k |>.up (by rw [bb]; omega), ?_, ?_⟩
  · obtain ⟨i, hi, rfl⟩ := List.mem_map.mp hl
    have hi := List.mem_range.mp hi
    split
    · exact nw_len ..
    · exact b.lens _ (mem_len (by rw [b.len]; exact hi))
  · obtain ⟨i, hi, rfl⟩ := List.mem_map.mp hl
    have hi := List.mem_range.mp hi
    split
    · exact nw_wd b hk hi
    · exact (b.wd _ (mem_len (by rw [b.len]; exact hi))).up (by rw [bb]; omega)
  · rw [hs2, ← e00]
    exact inv_step b.nz inv hp hC
  · have v := b.val
    rw [if_pos hk, hs] at v
    have v2 := val_step b.nz hp hC v
    rw [e00] at v2
    split
    · rename_i c
      rw [hs2]
      obtain ⟨r, hr⟩ : ∃ r, s = r + 1 := ⟨s - 1, by omega⟩
      rw [hr] at v2 ⊢
      rw [Int.pow_succ] at v2
      have v3 : g (rw' rows k) k * det (r + 1) (blk (elm rows k last N N) (k + 1)) = g (rw' rows k) k * (side * D * g (rw' rows k) k ^ r) := by rw [v2]; grind
      exact Int.eq_of_mul_eq_mul_left hp v3
    · have : s = 0 := by omega
      subst this
      rw [Int.pow_zero, Int.mul_one] at v2
      rw [← v2]
      show _ = _ * (1 : Int)
      rw [Int.mul_one]
end K25

set_option Elab.async false
set_option linter.all false
set_option maxRecDepth 100000
set_option maxHeartbeats 8000000
local macro_rules | `(tactic| walk_at "rd") => `(tactic| dsimp only [Evl.tCut, L2.tSeq, L2.tNext, L2.tRet, L2.tRetN, L2.tAsg, L2.gName, L2.tIfS, L2.tDrop, L2.tCons, L2.tNil, L2.tC, L2.tVar, L2.tCB, L2.tAndV, L2.tOrV, L2.tNotV, L2.tB, L2.tTest, L2.tOp, L2.tUn, L2.tNot, L2.tAnd, L2.tOr, L2.tIf, L2.tCall, L2.tTup, L2.tLst, L2.tNotT, L2.tYes, L2.gTup, L2.gCons, L2.gNil, L2.gSub, L2.tBM0, L2.tBM, L2.tWhile, L2.tFor, L2.iRng1, L2.iRng2, L2.tAugS, Tw.iEnumT, L2.tCKw, L2.tAug, L2.ipI, RT.iRevA, L2.iRevR, L2.tPar, L2.tPar3, L2.tSl, L2.tNoPart, L2.tPart, Tw.tRevT, L2.rAdd, L2.rSub, L2.tBits])
namespace K25
open PySem PySem.Spec PyProof.Rows L2 Tw
/-! the law's determinant -/
def spDet : Sp := fun vs H Q _ => ∃ (T : Addr) (xs : List V) (rows : List (List Int)) (N : Nat), vs = [.ref T] ∧ H T = some (.lst xs) ∧ RelA (RwN T) H xs rows ∧ rows.length = N ∧ N ≤ 6 ∧ (∀ l ∈ rows, l.length = N) ∧ (∀ l ∈ rows, WdA 1000 l) ∧ ∀ H', Same H H' → Q (.int (det N (blk rows 0))) H'
theorem RelA.set {α : Type} {R : Hp → V → α → Prop} {H : Hp} {xs : List V} {rs : List α} {v : V} {r : α} (h : RelA R H xs rs) (k : Nat) (g : R H v r) : RelA R H (xs.set k v) (rs.set k r) := by
  refine ⟨by rw [List.length_set, List.length_set]; exact h.1, fun i x e => ?_⟩
  rw [List.getElem?_set] at e ⊢
  by_cases c : k = i
  · subst c
    rw [if_pos rfl] at e ⊢
    by_cases d : k < xs.length
    · rw [if_pos d] at e
      injection e with e
      subst e
      exact ⟨r, by rw [if_pos (by rw [← h.1]; exact d)], g⟩
    · rw [if_neg d] at e; cases e
  · rw [if_neg c] at e ⊢
    exact h.2 i x e
/-- a row at its place -/
theorem rwN_at {D : Addr} {H : Hp} {xs : List V} {rs : List (List Int)} (h : RelA (RwN D) H xs rs) {i : Nat} (hi : i < rs.length) : ∃ L, xs[i]? = some (.ref L) ∧ L ≠ D ∧ H L = some (.lst ((rw' rs i).map V.int)) := by
  have hx : i < xs.length := by rw [h.1]; exact hi
  obtain ⟨r, er, L, e, n, e2⟩ := h.2 i _ (List.getElem?_eq_getElem hx)
  refine ⟨L, by rw [List.getElem?_eq_getElem hx, e], n, ?_⟩
  rw [rw_some hi, (List.getElem?_eq_some_iff.mp er).2]
  exact e2
theorem ne_dec (c : Int) : (!(c == 0)) = decide (c ≠ 0) := by by_cases z : c = 0 <;> simp [z]
theorem int_at {r : List Int} {j : Nat} (h : j < r.length) : (r.map V.int)[j]? = some (V.int (g r j)) := by
  rw [List.getElem?_map, List.getElem?_eq_getElem h, g_some h]; rfl
def rL0 (K : PySem.W.Frag) : R2 := fun x y H Q => ∃ a b xs, x = .ref a ∧ y = .ref b ∧ SqL K H a xs ∧ SqL K H b [] ∧ Q (.bl xs.isEmpty) H
theorem op_eqL0 {X : Cx} (hu : X.A.units + 64 < cLine) : OpR X (compareOp .Eq) (rL0 X.K) := by
  intro pins s σ H x y v u Q I rx ry h
  obtain ⟨a, b, xs, rfl, rfl, ha, hb, q⟩ := h
  cases rx
  cases ry
  obtain ⟨its, r1, p1, _⟩ := I.list ha
  obtain ⟨its2, r2, p2, _⟩ := I.list hb
  cases r2
  cases r1 with
  | nil => exact SeqAt.RcAt.lists (e := fun _ => true) p1.isList p2.isList rfl (by omega) (fun j h1 h2 => absurd h2 (by simp)) _ _ _ _ ⟨.bl _, H, I, rfl, q⟩
  | cons r rs => exact SeqAt.RcAt.lists_lengths p1.isList p2.isList (by simp) (by omega) _ _ _ _ ⟨.bl _, H, I, rfl, q⟩
/-- those of a range that are asked for -/
def flt (f : Nat → Bool) (lo n : Nat) : List Nat := ((List.range n).map fun i => lo + i).filter f
theorem flt_nil {f : Nat → Bool} {lo n : Nat} (h : flt f lo n = []) : ∀ i, lo ≤ i → i < lo + n → f i = false := fun i h1 h2 => by
  unfold flt at h
  rw [List.filter_eq_nil_iff] at h
  have := h i (List.mem_map.mpr ⟨i - lo, List.mem_range.mpr (by omega), by omega⟩)
  simpa using this
theorem flt_head {f : Nat → Bool} {lo n t : Nat} {l : List Nat} (h : flt f lo n = t :: l) : f t = true ∧ lo ≤ t ∧ t < lo + n := by
  have m : t ∈ flt f lo n := by rw [h]; exact List.mem_cons_self ..
  unfold flt at m
  rw [List.mem_filter] at m
  obtain ⟨i, hi, e⟩ := List.mem_map.mp m.1
  have := List.mem_range.mp hi
  exact ⟨m.2, by omega, by omega⟩
theorem lc_flt {wi : TI} {j : Nat} {tt : TT} {vs : List Nat} {σ : L2.St} {H : Hp} {Q : VK} {lo n : Nat} (f : Nat → Bool) (hi : ∀ R : It → Hp → Prop, R (Itr (lo : Int) n) H → wi σ H R) (hn : n < 100000)
    (hw : ∀ x, wipe ((wipe σ vs).set j (some x)) vs = wipe σ vs) (hj : ∀ x, ((wipe σ vs).set j (some x))[j]? = some (some x))
    (ht : ∀ (i : Nat) H1, i < n → Same H H1 → ∀ R : Bool → Hp → Prop, R (f (lo + i)) H1 → tt ((wipe σ vs).set j (some (.int ((lo + i : Nat) : Int)))) H1 R)
    (q : ∀ D H', Same H H' → H D = none → H' D = some (.lst ((flt f lo n).map fun i : Nat => V.int (i : Int))) → Q (.ref D) H') : tLc wi (gName j) tt (tVar j) vs σ H Q := by
  refine hi _ fun D hD => ?_
  refine lc_range (lo := lo) (n := n) (fun m H' => Same H H' ∧ H' D = some (.lst ((flt f lo m).map fun i : Nat => V.int (i : Int)))) ⟨same_new hD, upd_same⟩ (fun m H1 hm h => ?_) (fun H' h => q D H' h.1 hD h.2)
  obtain ⟨h1, h2⟩ := h
  refine ⟨hw _, ?_⟩
  have en : flt f lo (m + 1) = flt f lo m ++ (if f (lo + m) then [lo + m] else []) := by
    unfold flt
    rw [List.range_succ, List.map_append, List.filter_append]
    congr 1
    cases h : f (lo + m) <;> simp [h]
  have hl : (flt f lo m).length ≤ m := by
    unfold flt
    refine Nat.le_trans (List.length_filter_le ..) ?_
    rw [List.length_map, List.length_range]; exact Nat.le_refl _
  show tt ((wipe σ vs).set j (some (.int ((lo : Int) + (m : Int))))) H1 _
  rw [show (lo : Int) + (m : Int) = ((lo + m : Nat) : Int) by omega]
  refine ht m H1 hm h1 _ ?_
  cases h : f (lo + m) with
  | true =>
    refine iteT ⟨_, hj _, _, h2, ?_, same_upd h1 hD, ?_⟩
    · rw [List.length_map]; exact lt_line (by omega)
    · rw [upd_same, en, h, List.map_append]; rfl
  | false =>
    refine iteF ⟨h1, ?_⟩
    rw [en, h]
    simpa using h2
section
variable {P : Program} {w : World} {K : PySem.W.Frag} {mg : Str → Option Value} {base : Heap}
theorem scDet : FnScope ["_law_table_here", "_law_made", "_law_side", "_law_last", "_law_k", "_law_spots", "_law_n", "_law_lead", "_law_top", "_law_here", "_law_j"] ["_law_table_here"] (defScope sDet) := ⟨rfl, rfl, rfl, by decide +kernel, rfl, by decide +kernel, by decide +kernel⟩
theorem ok_det (D : Def K mg "_law_determinant" sDet ["_law_table_here"]) (nb : Nb mg) (hN : base.NoSeer) (ht : P.given.tree = none) : Cal P w K mg base "_law_determinant" 33 ["_law_table_here"] spDet := by
  refine D.ok scDet (fun vs H Q E h => ?_) (fun f cdv A out s H vs Q E hr h => ?_)
  · obtain ⟨T, xs, rows, N, rfl, _⟩ := h; rfl
  obtain ⟨T, xs, rows, N, rfl, eT, rT, lN, N6, hl, hw, q⟩ := h
  refine ⟨_, Evl.pss_cut (ps_asg (pe_tup (pa_cons (pe_callTy (T := "list") call_list_of (by rfl) nb.lst (by decide +kernel) (pa_cons (pv 0) pa_nil)) (pa_cons pe_int (pa_cons pe_int pa_nil)))) (pg_tup rfl (pgs_cons (pg_name (i := 1) scDet.nd rfl (Or.inr rfl)) (pgs_cons (pg_name (i := 2) scDet.nd rfl (Or.inl rfl)) (pgs_cons (pg_name (i := 3) scDet.nd rfl (Or.inr rfl)) pgs_nil)))))
    (Evl.pss_cut (ps_for PassesOwn.never rfl (pi_range1 (by rfl) nb.rng (pa_cons (pe_callB (id := "len") (r := rLn K) call_len_seq (by rfl) nb.len PySem.boot_len (pa_cons (pv 1) pa_nil)) pa_nil)) (pg_name (i := 4) scDet.nd rfl (Or.inr rfl))
      (Evl.pss_cut (ps_setLc (i := 5) (own := [("_law_n", 6)]) (g := gName 6) (tt := _) rfl scDet.nd rfl rfl (by rfl) (pi_range2 (by rfl) nb.rng (pa_cons (pv 4) (pa_cons (pe_callB (id := "len") (r := rLn K) call_len_seq (by rfl) nb.len PySem.boot_len (pa_cons (pv 1) pa_nil)) pa_nil))) (blkOk_by (N := ["_law_table_here", "_law_made", "_law_side", "_law_last", "_law_k", "_law_spots", "_law_n", "_law_lead", "_law_top", "_law_here", "_law_j"]) (sc := defScope sDet) (by decide +kernel)) (fun _ _ _ _ _ => pg_name (i := 6) scDet.nd rfl (Or.inl rfl)) (fun _ _ _ _ _ => pts_one (pt_cmpR op_ne (pe_ix (r := rIxL K) ix_list (pe_ix (r := rIxL K) ix_list (pv 1) (pv 6) (fun _ _ => rfl)) (pv 4) (fun _ _ => rfl)) pe_int (nomark _))) (fun _ _ _ _ _ => (pv 6)))
    (Evl.pss_cut (ps_if (pt_cmpR (op_eqL0 hr.units) (pv 5) (pe_lst pa_nil) (nomark _))
      (pss_one (ps_ret pe_int))
      (pss_nil))
    (Evl.pss_cut (ps_if (pt_cmpR op_ne (pe_ix (r := rIxL K) ix_list (pv 5) pe_int (fun _ _ => rfl)) (pv 4) (nomark _))
      (Evl.pss_cut (ps_asg (pe_tup (pa_cons (pe_ix (r := rIxL K) ix_list (pv 1) (pe_ix (r := rIxL K) ix_list (pv 5) pe_int (fun _ _ => rfl)) (fun _ _ => rfl)) (pa_cons (pe_ix (r := rIxL K) ix_list (pv 1) (pv 4) (fun _ _ => rfl)) pa_nil))) (pg_tup rfl (pgs_cons (pg_sub (pv 1) (pv 4) set_list) (pgs_cons (pg_sub (pv 1) (pe_ix (r := rIxL K) ix_list (pv 5) pe_int (fun _ _ => rfl)) set_list) pgs_nil))))
    (pss_one (ps_set (i := 2) scDet.nd rfl (Or.inl rfl) (pe_op op_sub pe_int (pv 2)))))
      (pss_nil))
    (Evl.pss_cut (ps_asg (pe_tup (pa_cons (pe_ix (r := rIxL K) ix_list (pe_ix (r := rIxL K) ix_list (pv 1) (pv 4) (fun _ _ => rfl)) (pv 4) (fun _ _ => rfl)) (pa_cons (pe_ix (r := rIxL K) ix_list (pv 1) (pv 4) (fun _ _ => rfl)) pa_nil))) (pg_tup rfl (pgs_cons (pg_name (i := 7) scDet.nd rfl (Or.inr rfl)) (pgs_cons (pg_name (i := 8) scDet.nd rfl (Or.inr rfl)) pgs_nil))))
    (Evl.pss_cut (ps_for PassesOwn.never rfl (pi_range2 (by rfl) nb.rng (pa_cons (pe_op op_add (pv 4) pe_int) (pa_cons (pe_callB (id := "len") (r := rLn K) call_len_seq (by rfl) nb.len PySem.boot_len (pa_cons (pv 1) pa_nil)) pa_nil))) (pg_name (i := 6) scDet.nd rfl (Or.inl rfl))
      (Evl.pss_cut (ps_set (i := 9) scDet.nd rfl (Or.inr rfl) (pe_ix (r := rIxL K) ix_list (pv 1) (pv 6) (fun _ _ => rfl)))
    (pss_one (ps_asg (pe_lc (own := [("_law_j", 10)]) (g := gName 10) (tt := tYes) rfl scDet.nd (pi_range1 (by rfl) nb.rng (pa_cons (pe_callB (id := "len") (r := rLn K) call_len_seq (by rfl) nb.len PySem.boot_len (pa_cons (pv 1) pa_nil)) pa_nil)) (blkOk_by (N := ["_law_table_here", "_law_made", "_law_side", "_law_last", "_law_k", "_law_spots", "_law_n", "_law_lead", "_law_top", "_law_here", "_law_j"]) (sc := defScope sDet) (by decide +kernel)) (fun _ _ _ _ _ => pg_name (i := 10) scDet.nd rfl (Or.inl rfl)) (fun _ _ _ _ _ => pts_nil) (fun _ _ _ _ _ => (pe_op (op_fdivP (se_mk hN ht rfl ⟨rfl, rfl, rfl, rfl⟩) hr (by omega)) (pe_op op_sub (pe_op op_mulW (pe_ix (r := rIxL K) ix_list (pv 9) (pv 10) (fun _ _ => rfl)) (pv 7)) (pe_op op_mulW (pe_ix (r := rIxL K) ix_list (pv 9) (pv 4) (fun _ _ => rfl)) (pe_ix (r := rIxL K) ix_list (pv 8) (pv 10) (fun _ _ => rfl)))) (pv 3)))) (pg_sub (pv 1) (pv 6) set_list)))))
    (pss_one (ps_set (i := 3) scDet.nd rfl (Or.inr rfl) (pv 7)))))))))
    (pss_one (ps_ret (pe_op op_mulW (pv 2) (pv 3))))), ?_⟩
  walk_at "rd"
  have lx : xs.length = N := by rw [rT.1, lN]
  refine ⟨fun σ H' => ∃ M, σ = [some (.ref T), some (.ref M), some (.int 1), some (.int 1), none, none, none, none, none, none, none] ∧ Same H H' ∧ H M = none ∧ H' M = some (.lst xs), ?_, ?_⟩
  · refine ⟨_, rfl, T, _, rfl, .inl (SqL.of eT), fun M nM => ⟨sz (by simp), fun t nt => ?_⟩⟩
    have s1 := same_new (o := .lst xs) nM
    have s2 := s1.trans (same_new (o := .tup [.ref M, .int 1, .int 1]) nt)
    refine ⟨t, _, rfl, SqT.of upd_same, rfl, _, _, rfl, _, _, rfl, _, _, rfl, rfl, M, rfl, s2, nM, ?_⟩
    exact same_new nt _ _ upd_same
  rintro σ1 H1 ⟨M, rfl, s1, nM, eM⟩
  have rM : RelA (RwN M) H1 xs rows := ⟨rT.1, fun i v e => by
    obtain ⟨r, er, L, rfl, n, e2⟩ := rT.2 i v e
    exact ⟨r, er, L, rfl, (fun z => by rw [z, nM] at e2; cases e2), s1 _ _ e2⟩⟩
  generalize hD : det N (blk rows 0) = Dt at q
  have b0 : Bar Dt N 0 rows 1 1 := by rw [← hD]; exact bar_start lN hl hw
  refine ⟨fun σ H' => ∃ side last x4 x5 x6 x7 x8 x9 x10, σ = [some (.ref T), some (.ref M), some (.int side), some (.int last), x4, x5, x6, x7, x8, x9, x10] ∧ Same H H' ∧ side * last = Dt ∧ (side = 1 ∨ side = -1) ∧ Wd 70000 last, ?_, ?_⟩
  · refine ⟨_, rfl, M, _, rfl, .inl (SqL.of eM), (xs.length : Int), rfl, by omega, by omega, ?_⟩
    rw [lx, Int.toNat_natCast]
    refine for_rng (lo := 0) (n := N) (fun k σ H' => ∃ side last x4 x5 x6 x7 x8 x9 x10 ys rw, σ = [some (.ref T), some (.ref M), some (.int side), some (.int last), x4, x5, x6, x7, x8, x9, x10] ∧ Same H H' ∧ H' M = some (.lst ys) ∧ RelA (RwN M) H' ys rw ∧ Bar Dt N k rw side last) ?_ ?_ ?_
    · exact ⟨1, 1, none, none, none, none, none, none, none, xs, rows, rfl, s1, eM, rM, b0⟩
    · rintro k σ H2 hk ⟨side, last, x4, x5, x6, x7, x8, x9, x10, ys, rs, rfl, s2, eM2, r2, b⟩
      walk_at "rd"
      rw [Int.zero_add]
      have lr := b.len
      have ly : ys.length = N := by rw [r2.1, lr]
      generalize hfl : flt (fun i => decide (g (rw' rs i) k ≠ 0)) k (N - k) = fl
      refine ⟨fun σ H' => ∃ S, σ = [some (.ref T), some (.ref M), some (.int side), some (.int last), some (.int (k : Int)), some (.ref S), x6, x7, x8, x9, x10] ∧ Same H2 H' ∧ H' S = some (.lst (fl.map fun i : Nat => V.int (i : Int))), ?_, ?_⟩
      · refine lc_flt (lo := k) (n := N - k) (fun i => decide (g (rw' rs i) k ≠ 0)) (fun R hR => ?_) (by omega) (fun x => rfl) (fun x => rfl) (fun i H3 hi s3 R hR => ?_) (fun S H3 s3 nS eS => ?_)
        · walk_at "rd"
          refine ⟨_, rfl, _, rfl, M, _, rfl, .inl (SqL.of eM2), (k : Int), (N : Int), ?_, ⟨by omega, by omega, by omega, by omega⟩, ?_⟩
          · rw [ly]
          · rw [show ((N : Int) - (k : Int)).toNat = N - k by omega]
            exact hR
        · walk_at "rd"
          obtain ⟨L, eL, nL, hL⟩ := rwN_at r2 (i := k + i) (by omega)
          have ll : (rw' rs (k + i)).length = N := b.lens _ (mem_len (by omega))
          refine ⟨_, rfl, _, rfl, M, ys, _, _, rfl, rfl, SqL.of (s3 _ _ eM2), atI_nat eL, _, rfl, L, _, _, _, rfl, rfl, SqL.of (s3 _ _ hL), atI_nat (int_at (by omega)), rfl, _, rfl, ?_⟩
          rw [dec_int]
          rw [ne_dec]
          exact hR
        · exact ⟨S, rfl, s3, by rw [eS, hfl]⟩
      rintro σ3 H3 ⟨S, rfl, s3, eS⟩
      have eM3 := s3 _ _ eM2
      have s03 := s2.trans s3
      have r3 := rwN_kp (Kp.of s3) r2
      cases fl with
      | nil =>
        refine ⟨fun _ _ => False, ?_, fun _ _ h => h.elim⟩
        have D0 : Dt = 0 := bar_zero b hk fun i h1 h2 => by
          have := flt_nil hfl i h1 (by omega)
          simpa using this
        refine ⟨_, rfl, sz (by simp), fun p1 n1 => ?_⟩
        have t1 := same_new (o := .lst []) n1
        refine ⟨S, p1, _, rfl, rfl, SqL.of (t1 _ _ eS), SqL.of upd_same, true, rfl, iteT ?_⟩
        have := q _ (s03.trans t1)
        rw [D0] at this
        exact this
      | cons t fl =>
      obtain ⟨ft, t1, t2⟩ := flt_head hfl
      have ft : g (rw' rs t) k ≠ 0 := by simpa using ft
      refine ⟨fun σ H' => σ = [some (.ref T), some (.ref M), some (.int side), some (.int last), some (.int (k : Int)), some (.ref S), x6, x7, x8, x9, x10] ∧ Same H3 H', ?_, ?_⟩
      · refine ⟨_, rfl, sz (by simp), fun p1 n1 => ?_⟩
        have u1 := same_new (o := .lst []) n1
        exact ⟨S, p1, _, rfl, rfl, SqL.of (u1 _ _ eS), SqL.of upd_same, false, rfl, iteF ⟨rfl, u1⟩⟩
      rintro σ4 H4 ⟨rfl, s4⟩
      have eM4 := s4 _ _ eM3
      have eS4 := s4 _ _ eS
      have s04 := s03.trans s4
      have r4 := rwN_kp (Kp.of s4) r3
      have at0 : atI ((t :: fl).map fun i : Nat => V.int (i : Int)) 0 = some (V.int (t : Int)) := atI_nat (j := 0) rfl
      refine ⟨fun σ H' => ∃ side2 ys2 rs2, σ = [some (.ref T), some (.ref M), some (.int side2), some (.int last), some (.int (k : Int)), some (.ref S), x6, x7, x8, x9, x10] ∧ Same H H' ∧ H' M = some (.lst ys2) ∧ RelA (RwN M) H' ys2 rs2 ∧ Bar Dt N k rs2 side2 last ∧ g (rw' rs2 k) k ≠ 0, ?_, ?_⟩
      · refine ⟨_, rfl, S, _, _, V.int (t : Int), rfl, rfl, SqL.of eS4, at0, _, rfl, rfl, _, rfl, ?_⟩
        rw [dec_int]
        by_cases c : t = k
        · subst c
          rw [show (!((t : Int) == (t : Int))) = false by simp]
          exact iteF ⟨side, ys, rs, rfl, s04, eM4, r4, b, ft⟩
        rw [show (!((t : Int) == (k : Int))) = true by simp; omega]
        obtain ⟨Lt, eLt, nLt, hLt⟩ := rwN_at r4 (i := t) (by omega)
        obtain ⟨Lk, eLk, nLk, hLk⟩ := rwN_at r4 (i := k) (by omega)
        refine iteT ⟨fun σ H' => ∃ ys2, σ = [some (.ref T), some (.ref M), some (.int side), some (.int last), some (.int (k : Int)), some (.ref S), x6, x7, x8, x9, x10] ∧ Same H H' ∧ H' M = some (.lst ys2) ∧ RelA (RwN M) H' ys2 (swp rs k t), ?_, ?_⟩
        · refine ⟨_, rfl, _, rfl, S, _, _, _, rfl, rfl, SqL.of eS4, at0, M, ys, _, _, rfl, rfl, SqL.of eM4, atI_nat eLt, _, rfl, _, rfl, M, ys, _, _, rfl, rfl, SqL.of eM4, atI_nat eLk, sz (by simp), fun p np => ?_⟩
          have pM : p ≠ M := fun z => by rw [z, eM4] at np; cases np
          have pS : p ≠ S := fun z => by rw [z, eS4] at np; cases np
          have SM : S ≠ M := fun z => by
            rw [z, eM4] at eS4
            injection eS4 with e
            injection e with e
            have := eLt
            rw [e, List.getElem?_map] at this
            cases h : (t :: fl)[t]? with
            | none => rw [h] at this; cases this
            | some a => rw [h] at this; cases this
          refine ⟨p, _, rfl, SqT.of upd_same, rfl, _, _, rfl, _, rfl, _, rfl, M, _, _, k, rfl, rfl, by rw [upd_ne pM.symm]; exact eM4, ixN_nat (by omega), _, _, rfl, _, rfl, _, rfl, ?_⟩
          have kp : Kp M H4 (upd (upd (upd H4 p (.tup [.ref Lt, .ref Lk])) M (.lst (ys.set k (.ref Lt)))) M (.lst ((ys.set k (.ref Lt)).set t (.ref Lk)))) := fun bb o nb eb => by
            rw [upd_ne nb, upd_ne nb]
            exact same_new np _ _ eb
          refine ⟨S, _, _, V.int (t : Int), rfl, rfl, SqL.of (by rw [upd_ne SM, upd_ne pS.symm]; exact eS4), at0, M, _, _, t, rfl, rfl, upd_same, ixN_nat (by rw [List.length_set]; omega), rfl, _, rfl, ?_, upd_same, ?_⟩
          · exact same_upd (same_upd (s04.trans (same_new np)) nM) nM
          · unfold swp
            exact RelA.set (RelA.set (rwN_kp kp r4) k ⟨Lt, rfl, nLt, kp _ _ nLt hLt⟩) t ⟨Lk, rfl, nLk, kp _ _ nLk hLk⟩
        rintro σ5 H5 ⟨ys2, rfl, s5, eM5, r5⟩
        refine ⟨_, rfl, _, _, rfl, rfl, 0 - side, ys2, swp rs k t, rfl, s5, eM5, r5, bar_swap b (by omega) (by omega), ?_⟩
        rw [swp_rw (by omega) (by omega), if_neg (by omega), if_pos rfl]
        exact ft
      rintro σ5 H5 ⟨side2, ys2, rs2, rfl, s5, eM5, r5, b5, hp⟩
      have lr5 := b5.len
      have ly5 : ys2.length = N := by rw [r5.1, lr5]
      obtain ⟨Lk, eLk, nLk, hLk⟩ := rwN_at r5 (i := k) (by omega)
      have lk5 : (rw' rs2 k).length = N := b5.lens _ (mem_len (by omega))
      generalize hld : g (rw' rs2 k) k = lead at hp
      refine ⟨fun σ H' => σ = [some (.ref T), some (.ref M), some (.int side2), some (.int last), some (.int (k : Int)), some (.ref S), x6, some (.int lead), some (.ref Lk), x9, x10] ∧ Same H5 H', ?_, ?_⟩
      · refine ⟨_, rfl, _, rfl, M, ys2, _, _, rfl, rfl, SqL.of eM5, atI_nat eLk, _, rfl, Lk, _, _, _, rfl, rfl, SqL.of hLk, atI_nat (int_at (j := k) (by omega)), _, rfl, _, rfl, M, ys2, _, _, rfl, rfl, SqL.of eM5, atI_nat eLk, sz (by simp), fun p np => ⟨p, _, rfl, SqT.of upd_same, rfl, _, _, rfl, _, _, rfl, rfl, ?_, same_new np⟩⟩
        rw [hld]
        rfl
      rintro σ6 H6 ⟨rfl, s6⟩
      have s06 := s5.trans s6
      refine ⟨fun σ H' => ∃ x6 x9 x10 zs, σ = [some (.ref T), some (.ref M), some (.int side2), some (.int last), some (.int (k : Int)), some (.ref S), x6, some (.int lead), some (.ref Lk), x9, x10] ∧ Same H H' ∧ H' M = some (.lst zs) ∧ RelA (RwN M) H' zs (elm rs2 k last N N), ?_, ?_⟩
      · refine ⟨_, rfl, _, _, rfl, rfl, _, rfl, M, _, rfl, .inl (SqL.of (s6 _ _ eM5)), (k : Int) + 1, (N : Int), by rw [ly5], ⟨by omega, by omega, by omega, by omega⟩, ?_⟩
        rw [show ((N : Int) - ((k : Int) + 1)).toNat = N - (k + 1) by omega]
        refine for_rng (lo := (k : Int) + 1) (n := N - (k + 1)) (fun i σ H' => ∃ x6 x9 x10 zs, σ = [some (.ref T), some (.ref M), some (.int side2), some (.int last), some (.int (k : Int)), some (.ref S), x6, some (.int lead), some (.ref Lk), x9, x10] ∧ Same H H' ∧ H' M = some (.lst zs) ∧ RelA (RwN M) H' zs (elm rs2 k last N (k + 1 + i)) ∧ H' Lk = some (.lst ((rw' rs2 k).map V.int))) ?_ ?_ ?_
        · exact ⟨x6, x9, x10, ys2, rfl, s06, s6 _ _ eM5, by rw [Nat.add_zero, elm_start lr5]; exact rwN_kp (Kp.of s6) r5, s6 _ _ hLk⟩
        · rintro i σ H7 hi ⟨y6, y9, y10, zs, rfl, s7, e7, r7, k7⟩
          walk_at "rd"
          rw [show (k : Int) + 1 + (i : Int) = ((k + 1 + i : Nat) : Int) by omega]
          generalize hn : k + 1 + i = n at r7
          have n1 : k < n := by omega
          have n2 : n < N := by omega
          have lz : zs.length = N := by rw [r7.1, elm_len]
          obtain ⟨Ln, eLn, nLn, hLn⟩ := rwN_at r7 (i := n) (by rw [elm_len]; exact n2)
          rw [elm_rw n2, if_neg (by omega)] at hLn
          have ln : (rw' rs2 n).length = N := b5.lens _ (mem_len (by omega))
          have wn := b5.wd _ (mem_len (show n < rs2.length by omega))
          have wk := b5.wd _ (mem_len (show k < rs2.length by omega))
          have bk := bb_le (show k ≤ 6 by omega)
          have wlead : Wd (bb k) lead := by rw [← hld]; exact wk.g k
          refine ⟨fun σ H' => σ = [some (.ref T), some (.ref M), some (.int side2), some (.int last), some (.int (k : Int)), some (.ref S), some (.int (n : Int)), some (.int lead), some (.ref Lk), some (.ref Ln), y10] ∧ H' = H7, ?_, ?_⟩
          · exact ⟨_, rfl, _, rfl, M, zs, _, _, rfl, rfl, SqL.of e7, atI_nat eLn, rfl, rfl⟩
          rintro σ8 H8 ⟨rfl, rfl⟩
          refine lc_rng (n := N) (fun j => V.int ((g (rw' rs2 n) j * lead - g (rw' rs2 n) k * g (rw' rs2 k) j).fdiv last)) (fun R hR => ?_) (by omega) (fun x => rfl) (fun j H9 hj s9 R hR => ?_) (fun L H9 s9 nL eL => ?_)
          · walk_at "rd"
            refine ⟨_, rfl, M, _, rfl, .inl (SqL.of e7), (zs.length : Int), rfl, by omega, by omega, ?_⟩
            rw [lz, Int.toNat_natCast]
            exact hR
          · walk_at "rd"
            rw [Int.zero_add]
            refine ⟨_, rfl, _, rfl, Ln, _, _, _, rfl, rfl, SqL.of (s9 _ _ hLn), atI_nat (int_at (by omega)), _, rfl, _, _, rfl, rfl, Wd.cm (wn.g j) wlead (by omega), _, rfl, _, rfl, Ln, _, _, _, rfl, rfl, SqL.of (s9 _ _ hLn), atI_nat (int_at (by omega)), _, rfl, _, rfl, Lk, _, _, _, rfl, rfl, SqL.of (s9 _ _ k7), atI_nat (int_at (by omega)), _, _, rfl, rfl, Wd.cm (wn.g k) (wk.g j) (by omega), _, _, rfl, rfl, _, rfl, _, _, rfl, rfl, b5.nz, ?_⟩
            exact hR H9 (Same.refl _)
          · have LM : L ≠ M := fun z => by rw [z, e7] at nL; cases nL
            have kp : Kp M H8 (upd H9 M (.lst (zs.set n (.ref L)))) := fun bb o nb eb => by rw [upd_ne nb]; exact s9 _ _ eb
            refine ⟨_, rfl, _, rfl, M, zs, _, n, rfl, rfl, s9 _ _ e7, ixN_nat (by omega), _, _, _, _, rfl, same_upd (s7.trans s9) nM, upd_same, ?_, kp _ _ nLk k7⟩
            rw [← Nat.add_assoc, hn, elm_next n1 n2]
            refine RelA.set (rwN_kp kp r7) n ⟨L, rfl, LM, ?_⟩
            rw [upd_ne LM, eL]
            unfold nw
            rw [List.map_map, hld]
            rfl
        · rintro σ H7 ⟨y6, y9, y10, zs, rfl, s7, e7, r7, k7⟩
          rw [show k + 1 + (N - (k + 1)) = N by omega] at r7
          exact ⟨y6, y9, y10, zs, rfl, s7, e7, r7⟩
      rintro σ7 H7 ⟨y6, y9, y10, zs, rfl, s7, e7, r7⟩
      refine ⟨_, rfl, side2, lead, _, _, _, _, _, _, _, zs, elm rs2 k last N N, rfl, s7, e7, r7, ?_⟩
      have := bar_step b5 hk (by rw [hld]; exact hp)
      rw [hld] at this
      exact this
    · rintro σ H2 ⟨side, last, x4, x5, x6, x7, x8, x9, x10, ys, rs, rfl, s2, eM2, r2, b⟩
      exact ⟨side, last, x4, x5, x6, x7, x8, x9, x10, rfl, s2, bar_end b, b.sd, b.wl.up (bb_le N6)⟩
  rintro σ5 H5 ⟨side, last, x4, x5, x6, x7, x8, x9, x10, rfl, s5, ee, sd, wl⟩
  refine ⟨_, rfl, _, rfl, _, _, rfl, rfl, ?_, ?_⟩
  · exact Wd.cm (n := 2) (m := 70000) (by unfold Wd; rcases sd with h | h <;> rw [h] <;> decide) wl (by decide)
  · show Q (V.int (side * last)) H5
    rw [ee]
    exact q H5 s5
end
end K25

set_option Elab.async false
set_option linter.all false
set_option maxRecDepth 100000
set_option maxHeartbeats 8000000
/-! products of lines, and their discriminants -/
namespace K25
/-- a POLY times a line u y + v -/
def lineT (p : List (List Int)) (v u : List Int) : List (List Int) :=
  (List.range (p.length + 1)).map fun i => trimI (addR (mulR (rw' p i) v) (if i = 0 then [] else mulR (rw' p (i - 1)) u))
theorem lineT_len (p : List (List Int)) (v u : List Int) : (lineT p v u).length = p.length + 1 := by unfold lineT; rw [List.length_map, List.length_range]
theorem lineT_rw {p : List (List Int)} {v u : List Int} {i : Nat} (h : i < p.length + 1) : rw' (lineT p v u) i = trimI (addR (mulR (rw' p i) v) (if i = 0 then [] else mulR (rw' p (i - 1)) u)) := by
  rw [rw_some (by rw [lineT_len]; exact h)]
  unfold lineT
  rw [List.getElem_map, List.getElem_range]
theorem lineT_ev (x : Int) (p : List (List Int)) (v u : List Int) (i : Nat) : ev x (rw' (lineT p v u) i) = ev x (rw' p i) * ev x v + (if i = 0 then 0 else ev x (rw' p (i - 1)) * ev x u) := by
  rcases Nat.lt_or_ge i (p.length + 1) with c | c
  · rw [lineT_rw c, ev_trim, ev_add, ev_mul]
    split
    · rfl
    · rw [ev_mul]
  · rw [rw_none (by rw [lineT_len]; exact c), rw_none (p := p) (k := i) (by omega), if_neg (by omega), rw_none (p := p) (k := i - 1) (by omega)]
    simp [ev]
theorem mul_above {r s : List Int} {j : Nat} (h : r.length + s.length ≤ j + 1) : g (mulR r s) j = 0 := by
  rw [g_mul]
  unfold cv
  rw [S_ext (h := fun _ => 0) _ fun a ha => ?_, S_zero]
  rcases Nat.lt_or_ge a r.length with c | c
  · rw [g_none (r := s) (by omega), Int.mul_zero]
  · rw [g_none (r := r) c, Int.zero_mul]
theorem okR_len {r : List Int} {L : Nat} (h : okR r) (z : ∀ j, L ≤ j → g r j = 0) : r.length ≤ L := by
  rcases Nat.lt_or_ge L r.length with c | c
  · have ne : r ≠ [] := fun q => by rw [q] at c; simp at c
    exact absurd (z (r.length - 1) (by omega)) (okR_last h ne)
  · exact c
theorem lineT_rows {p : List (List Int)} {v u : List Int} {L : Nat} (hp : ∀ r ∈ p, r.length ≤ L) (hv : v.length ≤ 2) (hu : u.length ≤ 2) (l1 : 1 ≤ L) : ∀ r ∈ lineT p v u, r.length ≤ L + 1 := fun r hr => by
  obtain ⟨i, hi, e⟩ := List.getElem_of_mem hr
  rw [← e, ← rw_some hi, lineT_rw (by rw [← lineT_len p v u]; exact hi)]
  refine okR_len (okR_trim _) fun j hj => ?_
  rw [g_trim, g_add]
  have a := rw_len hp i
  have b := rw_len hp (i - 1)
  rw [mul_above (by omega)]
  split
  · rfl
  · rw [mul_above (by omega)]; rfl
theorem mul_ne {r s : List Int} (hr : okR r) (hs : okR s) (nr : r ≠ []) (ns : s ≠ []) : trimI (mulR r s) ≠ [] := fun z => by
  have a := trim_nil_of z
  have lr := List.length_pos_iff.mpr nr
  have ls := List.length_pos_iff.mpr ns
  have e : g (mulR r s) (r.length - 1 + (s.length - 1)) ≠ 0 := by
    rw [g_mul, cv_top (fun i hi => g_none (by omega)) (fun i hi => g_none (by omega))]
    exact Int.mul_ne_zero (okR_last hr nr) (okR_last hs ns)
  rcases Nat.lt_or_ge (r.length - 1 + (s.length - 1)) (mulR r s).length with c | c
  · rw [g_some c] at e; exact e (a _ (List.getElem_mem _))
  · exact e (g_none c)
theorem lineT_lead {p : List (List Int)} {v u : List Int} (lp : 1 ≤ p.length) : rw' (lineT p v u) p.length = trimI (mulR (rw' p (p.length - 1)) u) := by
  rw [lineT_rw (by omega), if_neg (by omega), rw_none (Nat.le_refl _)]
  rfl
theorem lineT_ok {p : List (List Int)} {v u : List Int} (okp : okP p) (np : p ≠ []) (oku : okR u) (nu : u ≠ []) : okP (lineT p v u) := by
  have lp := List.length_pos_iff.mpr np
  refine ⟨fun r hr => ?_, fun r hr e => ?_⟩
  · obtain ⟨i, hi, e⟩ := List.getElem_of_mem hr
    rw [← e, ← rw_some hi, lineT_rw (by rw [← lineT_len p v u]; exact hi)]
    exact okR_trim _
  · rw [List.getLast?_eq_getElem?, lineT_len] at hr
    have h1 : rw' (lineT p v u) p.length = r := by
      unfold rw'
      rw [List.getD_eq_getElem?_getD, show p.length = p.length + 1 - 1 by omega, hr]
      rfl
    obtain ⟨ok1, ne1⟩ := lead_row okp np
    rw [lineT_lead lp, e] at h1
    exact mul_ne ok1 oku ne1 nu h1
theorem lineT_eq {p t : List (List Int)} {v u : List Int} (okp : okP p) (np : p ≠ []) (oku : okR u) (nu : u ≠ []) (okt : okP t) (h : ∀ i j, co t i j = cv2 p [v, u] i j) : t = lineT p v u := by
  refine poly_ext okt (lineT_ok okp np oku nu) fun i j => ?_
  rw [h]
  have e1 : cv2 p [v, u] i j = cv (g (rw' p i)) (g v) j + (if i = 0 then 0 else cv (g (rw' p (i - 1))) (g u) j) := by
    unfold cv2
    cases i with
    | zero =>
      rw [S, S, if_pos rfl, Int.add_zero, Int.zero_add]
      rfl
    | succ i =>
      rw [S, S, if_neg (by omega), S_ext (h := fun _ => 0) i fun a ha => ?_, S_zero, Int.zero_add, Int.add_comm]
      · congr 1
        · rw [Nat.sub_self]; rfl
        · rw [show i + 1 - i = 1 by omega, Nat.add_sub_cancel]; rfl
      · obtain ⟨d, hd⟩ : ∃ d, i + 1 - a = d + 2 := ⟨i - 1 - a, by omega⟩
        rw [hd, cv_comm]
        exact cv_zero (fun k => rfl) j
  rw [e1]
  rcases Nat.lt_or_ge i (p.length + 1) with c | c
  · rw [co_rw (lineT p v u), lineT_rw c, g_trim, g_add, g_mul]
    split
    · rfl
    · rw [g_mul]
  · rw [co_none (by rw [lineT_len]; exact c), rw_none (p := p) (k := i) (by omega), if_neg (by omega), rw_none (p := p) (k := i - 1) (by omega), cv_zero (f := g []) (fun k => rfl), cv_zero (f := g []) (fun k => rfl)]; rfl
def sumTo (f : Nat → Nat) : Nat → Nat
  | 0 => 0
  | n + 1 => sumTo f n + f n
theorem sum_range (f : Nat → Nat) : ∀ n, ((List.range n).map f).sum = sumTo f n
  | 0 => rfl
  | n + 1 => by rw [List.range_succ, List.map_append, List.sum_append, sum_range f n]; simp [sumTo]
theorem sumN_to (p : List (List Int)) : sumN p = sumTo (fun i => nm (rw' p i)) p.length := by
  rw [← sum_range]
  unfold sumN
  congr 1
  refine List.ext_getElem (by simp) fun i h1 h2 => ?_
  rw [List.getElem_map, List.getElem_map, List.getElem_range, rw_some]
theorem lineT_nm {p : List (List Int)} {v u : List Int} : sumN (lineT p v u) ≤ sumN p * (nm v + nm u) := by
  have key : ∀ n, n ≤ p.length + 1 → sumTo (fun i => nm (rw' (lineT p v u) i)) n ≤ sumTo (fun i => nm (rw' p i)) n * nm v + sumTo (fun i => nm (rw' p i)) (n - 1) * nm u := fun n => by
    induction n with
    | zero => intro _; simp [sumTo]
    | succ n ih =>
      intro hn
      have ih := ih (by omega)
      have h1 : nm (rw' (lineT p v u) n) ≤ nm (rw' p n) * nm v + (if n = 0 then 0 else nm (rw' p (n - 1)) * nm u) := by
        rw [lineT_rw (by omega)]
        refine Nat.le_trans (nm_trim _) (Nat.le_trans (nm_add _ _) (Nat.add_le_add (nm_mul _ _) ?_))
        split
        · exact Nat.le_refl _
        · exact nm_mul _ _
      rw [sumTo, sumTo, Nat.add_mul, Nat.add_sub_cancel]
      cases n with
      | zero => simp [sumTo] at h1 ih ⊢; omega
      | succ n =>
        rw [if_neg (by omega), Nat.add_sub_cancel] at h1
        rw [Nat.add_sub_cancel] at ih
        rw [sumTo.eq_def (fun i => nm (rw' p i)) (n + 1)]
        rw [sumTo.eq_def (fun i => nm (rw' p i)) (n + 1)] at ih
        dsimp only at ih ⊢
        rw [Nat.add_mul, Nat.add_mul]
        rw [Nat.add_mul] at ih
        omega
  have k := key (p.length + 1) (Nat.le_refl _)
  rw [sumTo.eq_def (fun i => nm (rw' p i)) (p.length + 1)] at k
  dsimp only at k
  rw [Nat.add_sub_cancel, rw_none (p := p) (Nat.le_refl _), ← sumN_to p] at k
  rw [sumN_to (lineT p v u), lineT_len, Nat.mul_add]
  simpa [nm] using k
end K25

set_option Elab.async false
set_option linter.all false
set_option maxRecDepth 100000
set_option maxHeartbeats 8000000
local macro_rules | `(tactic| walk_at "rd") => `(tactic| dsimp only [Evl.tCut, L2.tSeq, L2.tNext, L2.tRet, L2.tRetN, L2.tAsg, L2.gName, L2.tIfS, L2.tDrop, L2.tCons, L2.tNil, L2.tC, L2.tVar, L2.tCB, L2.tAndV, L2.tOrV, L2.tNotV, L2.tB, L2.tTest, L2.tOp, L2.tUn, L2.tNot, L2.tAnd, L2.tOr, L2.tIf, L2.tCall, L2.tTup, L2.tLst, L2.tNotT, L2.tYes, L2.gTup, L2.gCons, L2.gNil, L2.gSub, L2.tBM0, L2.tBM, L2.tWhile, L2.tFor, L2.iRng1, L2.iRng2, L2.tAugS, Tw.iEnumT, L2.tCKw, L2.tAug, L2.ipI, RT.iRevA, L2.iRevR, L2.tPar, L2.tPar3, L2.tSl, L2.tNoPart, L2.tPart, Tw.tRevT, L2.rAdd, L2.rSub, L2.tBits])
namespace K25
open PySem PySem.Spec PyProof.Rows L2 Tw
/-! the table is Sylvester's; what is drawn; what is a row -/
theorem g_sylRow {f : List Int} {m k j : Nat} : g (sylRow f m k) j = if k ≤ j ∧ j < k + f.length then g f (j - k) else 0 := by
  unfold sylRow
  have e : ∀ n : Nat, ∀ i, g (List.replicate n (0 : Int)) i = 0 := fun n i => by
    rcases Nat.lt_or_ge i n with c | c
    · rw [g_some (by rw [List.length_replicate]; exact c), List.getElem_replicate]
    · exact g_none (by rw [List.length_replicate]; exact c)
  have ap : ∀ (a b : List Int) i, g (a ++ b) i = if i < a.length then g a i else g b (i - a.length) := fun a b i => by
    unfold g
    rw [List.getD_eq_getElem?_getD, List.getElem?_append]
    split
    · rw [List.getD_eq_getElem?_getD]
    · rw [List.getD_eq_getElem?_getD]
  rw [ap, ap, List.length_append, List.length_replicate, e, e]
  by_cases c : j < k + f.length
  · rw [if_pos c]
    by_cases d : j < k
    · rw [if_pos d, if_neg (by omega)]
    · rw [if_neg d, if_pos (by omega)]
  · rw [if_neg c, if_neg (by omega)]
theorem g_vals {x : Int} {p : List (List Int)} {j : Nat} (h : j < p.length) : g (vals x p) j = ev x (rw' p (p.length - 1 - j)) := by
  unfold vals
  rw [g_range h]
theorem syl_len (x : Int) (p q : List (List Int)) : (syl x p q).length = p.length - 1 + (q.length - 1) := by
  unfold syl
  rw [List.length_append, List.length_map, List.length_map, List.length_range, List.length_range]; omega
theorem syl_lens {x : Int} {p q : List (List Int)} (hp : 1 ≤ p.length) (hq : 1 ≤ q.length) : ∀ l ∈ syl x p q, l.length = p.length - 1 + (q.length - 1) := fun l hl => by
  unfold syl at hl
  rcases List.mem_append.mp hl with h | h
  · obtain ⟨k, hk, rfl⟩ := List.mem_map.mp h
    have := List.mem_range.mp hk
    unfold sylRow
    rw [List.length_append, List.length_append, List.length_replicate, List.length_replicate, vals_len]; omega
  · obtain ⟨k, hk, rfl⟩ := List.mem_map.mp h
    have := List.mem_range.mp hk
    unfold sylRow
    rw [List.length_append, List.length_append, List.length_replicate, List.length_replicate, vals_len]; omega
theorem good_fine {p : List (List Int)} (h : Good p) : Fine p := ⟨h.2.1, h.2.2.1, fun r hr => ⟨by have := h.2.2.2.1 r hr; omega, Nat.lt_of_le_of_lt (nm_le_sum hr) (Nat.lt_trans h.2.2.2.2 (by decide +kernel))⟩⟩
theorem vals_wd {x : Int} {p : List (List Int)} (h : Good p) (hx : x.natAbs ≤ 64) : ∀ c ∈ vals x p, Wd 1000 c := fun c hc => by
  unfold vals at hc
  obtain ⟨k, hk, rfl⟩ := List.mem_map.mp hc
  have := List.mem_range.mp hk
  have hm := mem_len (show p.length - 1 - k < p.length by omega)
  have hl := h.2.2.2.1 _ hm
  exact (ev_wdc (c := 50) hx (Nat.lt_of_le_of_lt (nm_le_sum hm) h.2.2.2.2)).up (by omega)
theorem syl_wd {x : Int} {p q : List (List Int)} (hp : Good p) (hq : Good q) (hx : x.natAbs ≤ 64) : ∀ l ∈ syl x p q, WdA 1000 l := fun l hl c hc => by
  have row : ∀ f m k, (∀ c ∈ f, Wd 1000 c) → c ∈ sylRow f m k → Wd 1000 c := fun f m k hf hc => by
    unfold sylRow at hc
    rcases List.mem_append.mp hc with h | h
    · rcases List.mem_append.mp h with h | h
      · rw [(List.mem_replicate.mp h).2]; exact Wd.zero _
      · exact hf c h
    · rw [(List.mem_replicate.mp h).2]; exact Wd.zero _
  unfold syl at hl
  rcases List.mem_append.mp hl with h | h
  · obtain ⟨k, hk, rfl⟩ := List.mem_map.mp h
    exact row _ _ _ (vals_wd hp hx) hc
  · obtain ⟨k, hk, rfl⟩ := List.mem_map.mp h
    exact row _ _ _ (vals_wd hq hx) hc
/-- the law's determinant is the value of the resultant -/
theorem det_syl {x : Int} {p q : List (List Int)} (hp : Good p) (hq : Good q) : det (p.length - 1 + (q.length - 1)) (blk (syl x p q) 0) = ev x (resT p q) := by
  rw [ev_resT x hp.2.2.1]
  have p1 := hp.2.1
  have q1 := hq.2.1
  refine det_ext fun i j hi hj => ?_
  unfold blk syI
  rw [Nat.zero_add, Nat.zero_add]
  by_cases c : i < q.length - 1
  · have e : rw' (syl x p q) i = sylRow (vals x p) (q.length - 1) i := by
      unfold syl rw'
      rw [List.getD_eq_getElem?_getD, List.getElem?_append_left (by rw [List.length_map, List.length_range]; exact c), List.getElem?_map, List.getElem?_range c]
      rfl
    rw [e, g_sylRow, vals_len, if_pos c]
    by_cases d : i ≤ j ∧ j ≤ i + (p.length - 1)
    · rw [if_pos d, if_pos (by omega), g_vals (by omega), show p.length - 1 - (j - i) = p.length - 1 + i - j by omega]
    · rw [if_neg d, if_neg (by omega)]
  · have e : rw' (syl x p q) i = sylRow (vals x q) (p.length - 1) (i - (q.length - 1)) := by
      unfold syl rw'
      rw [List.getD_eq_getElem?_getD, List.getElem?_append_right (by rw [List.length_map, List.length_range]; omega), List.getElem?_map, List.length_map, List.length_range, List.getElem?_range (by omega)]
      rfl
    rw [e, g_sylRow, vals_len, if_neg c]
    by_cases d : i - (q.length - 1) ≤ j ∧ j ≤ i - (q.length - 1) + (q.length - 1)
    · rw [if_pos d, if_pos (by omega), g_vals (by omega), show q.length - 1 - (j - (i - (q.length - 1))) = q.length - 1 + (i - (q.length - 1)) - j by omega]
    · rw [if_neg d, if_neg (by omega)]
def Drawn (p : List (List Int)) : Prop := okP p ∧ 1 ≤ p.length ∧ p.length ≤ 4 ∧ ∀ r ∈ p, r.length ≤ 3 ∧ nm r ≤ 1500000
def spSome : Sp := fun vs H Q _ => ∃ a, vs = [.ref a] ∧ We a H ∧ ∀ v p H', Kp a H H' → We a H' → Po H' v p → Drawn p → Q v H'
def spIsRow : Sp := fun vs H Q _ => ∃ (a : Addr) (u : V) (r : List Int), vs = [u] ∧ We a H ∧ Ro H u r ∧ okR r ∧ r.length ≤ 100 ∧ ∀ H', Same H H' → Q (.bl true) H'
theorem kp_kt {a : Addr} {H H' : Hp} (w : We a H) (k : Kp a H H') : Kt H H' := fun b xs e => k b _ (We.nt w e) e
theorem we_upd {a L : Addr} {H : Hp} {o : HO} (w : We a H) (n : L ≠ a) : We a (upd H L o) := by
  obtain ⟨x, y, z, e⟩ := w
  exact ⟨x, y, z, by rw [upd_ne n.symm]; exact e⟩
theorem nm_small {r : List Int} {L B : Nat} (h : r.length ≤ L) (hb : ∀ c ∈ r, c.natAbs ≤ B) : nm r ≤ L * B := by
  have : nm r ≤ r.length * B := by
    clear h
    induction r with
    | nil => exact Nat.zero_le _
    | cons a r ih =>
      have h1 := ih fun c hc => hb c (List.mem_cons_of_mem _ hc)
      have h2 := hb a (List.mem_cons_self ..)
      rw [nm, List.length_cons, Nat.add_mul, Nat.one_mul]
      omega
  exact Nat.le_trans this (Nat.mul_le_mul_right _ h)
section
variable {P : Program} {w : World} {K : PySem.W.Frag} {mg : Str → Option Value} {base : Heap}
theorem scSome : FnScope ["_law_well_here", "_law_made", "_law_k"] ["_law_well_here"] (defScope sSome) := ⟨rfl, rfl, rfl, by decide +kernel, rfl, by decide +kernel, by decide +kernel⟩
theorem ok_some (D : Def K mg "_law_some" sSome ["_law_well_here"]) (nb : Nb mg) (c1 : Cal P w K mg base "_law_draw" 1 ["_law_well_here", "_law_many"] spDraw) (crow : Cal P w K mg base "_law_row" 3 ["_law_well_here", "_law_many"] spRowM)
    (ct : Cal P w K mg base "_law_trim" 1 ["_law_some_here"] spTrimP) : Cal P w K mg base "_law_some" 4 ["_law_well_here"] spSome := by
  refine D.ok scSome (fun vs H Q E h => ?_) (fun f cdv A out s H vs Q E hr h => ?_)
  · obtain ⟨a, rfl, _⟩ := h; rfl
  obtain ⟨a, rfl, hw, q⟩ := h
  refine ⟨_, pss_cons (ps_set (i := 1) scSome.nd rfl (Or.inl rfl) (pe_lst pa_nil))
    (pss_cons (ps_for PassesOwn.never rfl (pi_range1 (by rfl) nb.rng (pa_cons (pe_op op_add pe_int (pe_cal c1 hr (by omega) (by rfl) (pa_cons (pv 0) (pa_cons pe_int pa_nil)))) pa_nil)) (pg_name (i := 2) scSome.nd rfl (Or.inl rfl))
      (pss_one (ps_expr (pe_bm PySem.F.plainAttrs_list PySem.F.slot_list_append PySem.F.type_list_append mt_append (pv 1) (pa_cons (pe_cal crow hr (by omega) (by rfl) (pa_cons (pv 0) (pa_cons pe_int pa_nil))) pa_nil)))))
    (pss_cons (ps_set (i := 1) scSome.nd rfl (Or.inl rfl) (pe_cal ct hr (by omega) (by rfl) (pa_cons (pv 1) pa_nil)))
    (pss_one (ps_ret (pe_ifExp (pt_cmpR (op_neT0 hr.units) (pv 1) (pe_tup pa_nil) (nomark _)) (pv 1) (pe_tup (pa_cons (pe_tup (pa_cons pe_int (pa_cons (pe_un un_neg pe_int) pa_nil))) pa_nil))))))), ?_⟩
  walk_at "rd"
  refine ⟨sz (by simp), fun L nL => ?_⟩
  have La : L ≠ a := hw.ne nL
  have w0 := hw.to (same_new (o := .lst []) nL)
  have k0 : Kp a H (upd H L (.lst [])) := kp_new nL
  refine ⟨_, rfl, a, 4, rfl, w0, by decide, by decide, fun d H2 d0 d3 k2 w2 => ⟨_, _, rfl, rfl, ?_⟩⟩
  obtain ⟨d, rfl⟩ : ∃ m : Nat, d = (m : Int) := ⟨d.toNat, by omega⟩
  refine ⟨_, rfl, by omega, by omega, ?_⟩
  rw [show ((1 : Int) + (d : Int)).toNat = d + 1 by omega]
  refine for_rng (lo := 0) (n := d + 1) (fun i σ H' => ∃ xs rs x2, σ = [some (.ref a), some (.ref L), x2] ∧ Kp a H H' ∧ We a H' ∧ H' L = some (.lst xs) ∧ RoA H' xs rs ∧ rs.length = i ∧ ∀ r ∈ rs, okR r ∧ r.length ≤ 3 ∧ ∀ c ∈ r, c.natAbs ≤ 500000) ?_ ?_ ?_
  · exact ⟨[], [], _, rfl, k0.trans k2, w2, k2 _ _ La upd_same, .nil _, rfl, fun r hr => by cases hr⟩
  · rintro i σ H3 hi ⟨xs, rs, x2, rfl, k3, w3, eM, rM, li, pr⟩
    refine ⟨_, rfl, .inl ⟨rfl, _, SqL.of eM⟩, _, rfl, a, 3, rfl, w3, by decide, by decide, fun v ns H4 k4 w4 rv okv lv cv' => ?_⟩
    have eM4 := k4 _ _ La eM
    refine ⟨L, xs, v, rfl, rfl, eM4, lt_line (by rw [rM.1]; omega), xs ++ [v], rs ++ [ns], _, rfl, kp_upd (k3.trans k4) nL, we_upd w4 La, upd_same, ((rM.kt (kp_kt w3 k4)).snoc rv).kt (kt_upd eM4), by rw [List.length_append, li]; rfl, fun r hr => ?_⟩
    rcases List.mem_append.mp hr with hr | hr
    · exact pr r hr
    · rw [List.mem_singleton.mp hr]; exact ⟨okv, by omega, cv'⟩
  · rintro σ H3 ⟨xs, rs, x2, rfl, k3, w3, eM, rM, li, pr⟩
    refine ⟨_, rfl, L, xs, rs, rfl, eM, rM, ⟨a, w3⟩, fun v H4 s4 r4 => ?_⟩
    obtain ⟨pv, ys, rfl, ev4, rv⟩ := r4
    refine ⟨_, rfl, sz (by simp), fun p0 np0 => ?_⟩
    have s5 := s4.trans (same_new (o := .tup []) np0)
    have ev5 := same_new (o := .tup []) np0 _ _ ev4
    have rv5 := rv.kt (Kt.of (same_new (o := .tup []) np0))
    refine ⟨pv, p0, ys, [], rfl, rfl, SqT.of ev5, SqT.of upd_same, rfl, _, rfl, ?_⟩
    generalize upd H4 p0 (.tup []) = H5 at s5 ev5 rv5 ⊢
    have okt := okP_trim (p := rs) fun r hr => (pr r hr).1
    have lt := trimBy_len (fun r : List Int => r.isEmpty) rs
    by_cases c : ys = []
    · subst c
      refine iteF ⟨1, rfl, sz (by simp), fun p1 np1 => ⟨sz (by simp), fun p2 np2 => ?_⟩⟩
      have s6 := (same_new (o := .tup [.int 3, .int (-1)]) np1).trans (same_new (o := .tup [.ref p1]) np2)
      refine q _ [[3, -1]] _ (k3.trans (Kp.of (s5.trans s6))) (w3.to (s5.trans s6)) ⟨p2, [.ref p1], rfl, upd_same, (RoA.nil _).snoc ⟨p1, rfl, same_new np2 _ _ upd_same⟩⟩ ⟨?_, by decide, by decide, ?_⟩
      · refine ⟨fun r hr => ?_, fun r hr => ?_⟩
        · rw [List.mem_singleton.mp hr]; intro c hc; simp at hc; omega
        · simp at hr; rw [← hr]; simp
      · intro r hr
        rw [List.mem_singleton.mp hr]; decide
    · have : (!ys.isEmpty) = true := by cases ys with | nil => exact absurd rfl c | cons a l => rfl
      show if (if true = true then !ys.isEmpty else ys.isEmpty) = true then _ else _
      rw [if_pos rfl, this]
      refine iteT ⟨_, rfl, q _ (trimP rs) H5 (k3.trans (Kp.of s5)) (w3.to s5) ⟨pv, ys, rfl, ev5, rv5⟩ ⟨okt, ?_, Nat.le_trans lt (by omega), fun r hr => ?_⟩⟩
      · rw [← rv.1]; exact List.length_pos_iff.mpr c
      · have := pr r (trimBy_mem _ _ hr)
        exact ⟨this.2.1, nm_small (L := 3) this.2.1 this.2.2⟩
theorem scIsRow : FnScope ["_law_thing", "_law_each"] ["_law_thing"] (defScope sIsRow) := ⟨rfl, rfl, rfl, by decide +kernel, rfl, by decide +kernel, by decide +kernel⟩
theorem ok_isrow (D : Def K mg "_law_is_row" sIsRow ["_law_thing"]) (nb : Nb mg) : Cal P w K mg base "_law_is_row" 1 ["_law_thing"] spIsRow := by
  refine D.ok scIsRow (fun vs H Q E h => ?_) (fun f cdv A out s H vs Q E hr h => ?_)
  · obtain ⟨a, u, r, rfl, _⟩ := h; rfl
  obtain ⟨a, u, r, rfl, hw, hu, okr, lr, q⟩ := h
  refine ⟨_, pss_cons (ps_if (pt_not (pt_val (pe_callB (id := "isinstance") (r := rIsi K) call_isi (by rfl) nb.isi (by decide +kernel) (pa_cons (pv 0) (pa_cons (pe_bltn (v := .ty "tuple") (by rfl) nb.tup (by decide +kernel) rfl) pa_nil)))))
      (pss_one (ps_ret pe_bl))
      (pss_nil))
    (pss_cons (ps_if (pt_not (pt_val (pe_callB (id := "all") (r := rAll K) (cr_all rfl) (by rfl) nb.all (by decide +kernel) (pa_cons (pe_lc (own := [("_law_each", 1)]) (g := gName 1) (tt := tYes) rfl scIsRow.nd (pi_tup (pv 0)) (blkOk_by (N := ["_law_thing", "_law_each"]) (sc := defScope sIsRow) (by decide +kernel)) (fun _ _ _ _ _ => pg_name (i := 1) scIsRow.nd rfl (Or.inl rfl)) (fun _ _ _ _ _ => pts_nil) (fun _ _ _ _ _ => (pe_and (pe_callB (id := "isinstance") (r := rIsi K) call_isi (by rfl) nb.isi (by decide +kernel) (pa_cons (pv 1) (pa_cons (pe_bltn (v := .ty "int") (by rfl) nb.int (by decide +kernel) rfl) pa_nil))) (pe_one (pe_not (pe_callB (id := "isinstance") (r := rIsi K) call_isi (by rfl) nb.isi (by decide +kernel) (pa_cons (pv 1) (pa_cons (pe_bltn (v := .ty "bool") (by rfl) nb.bool (by decide +kernel) rfl) pa_nil)))))))) pa_nil))))
      (pss_one (ps_ret pe_bl))
      (pss_nil))
    (pss_one (ps_ret (pe_or (pe_cmpR (op_eqT0 hr.units) (pv 0) (pe_tup pa_nil) (nomark _)) (pe_one (pe_cmpR op_ne (pe_ix (r := rIxT K) ix_tup (pv 0) (pe_un un_neg pe_int) (fun _ _ => rfl)) pe_int (nomark _))))))), ?_⟩
  walk_at "rd"
  have hd := da_row hw hu
  obtain ⟨pu, rfl, eu⟩ := hu
  refine ⟨_, rfl, isi hd (isi_tup _) ⟨true, rfl, iteF ?_⟩⟩
  refine lc_relT (S := fun _ v k => v = V.int k) (R := fun _ v b => v = V.bl b) (g := fun _ : Int => true) (rs := r) (p := pu) (xs := r.map V.int) (stable_eq _) (stable_eq _) rfl eu (RelA.of_map _) (by omega) (fun x => rfl) (fun x c Hb hc sb rx Y hY => ?_) fun D ys Ha sa nD eD ry => ?_
  · subst rx
    walk_at "rd"
    refine ⟨_, rfl, isi (Da.int (a := a) c) (isi_int _) ⟨true, rfl, iteT ⟨_, rfl, isi (Da.int (a := a) c) (isi_bool _) ⟨false, rfl, ?_⟩⟩⟩⟩
    exact hY _ _ (Same.refl _) rfl
  · have ey := RelA.eq_map ry
    refine ⟨D, r.map fun _ => true, rfl, SqL.of (by rw [eD, ey]), _, rfl, ?_⟩
    have e : ((r.map fun _ => true).all id) = true := by
      rw [List.all_eq_true]
      intro b hb
      obtain ⟨_, _, rfl⟩ := List.mem_map.mp hb
      rfl
    rw [e]
    have e2 := sa _ _ eu
    refine iteF ⟨_, rfl, sz (by simp), fun p0 np0 => ?_⟩
    have t0 := same_new (o := .tup []) np0
    have e3 := t0 _ _ e2
    refine ⟨pu, p0, _, [], rfl, rfl, SqT.of e3, SqT.of upd_same, rfl, ?_⟩
    generalize upd Ha p0 (.tup []) = Hc at t0 e3 ⊢
    have q' := q _ (sa.trans t0)
    by_cases c : r = []
    · subst c
      exact ⟨_, rfl, iteT q'⟩
    · have hr : 1 ≤ r.length := List.length_pos_iff.mpr c
      have : (r.map V.int).isEmpty = false := by cases r with | nil => exact absurd rfl c | cons a l => rfl
      show ∃ b, V.bl (if false = true then _ else (r.map V.int).isEmpty) = V.bl b ∧ _
      rw [if_neg (by decide), this]
      refine ⟨_, rfl, iteF ⟨_, rfl, 1, rfl, pu, _, -1, _, rfl, rfl, SqT.of e3, atI_hd hr, rfl, ?_⟩⟩
      rw [dec_int]
      have hl := okR_last okr c
      rw [show (!(K25.hd r == 0)) = true by have : K25.hd r ≠ 0 := hl; simp [this]]
      exact q'
end
end K25

set_option Elab.async false
set_option linter.all false
set_option maxRecDepth 100000
set_option maxHeartbeats 8000000
local macro_rules | `(tactic| walk_at "rd") => `(tactic| dsimp only [Evl.tCut, L2.tSeq, L2.tNext, L2.tRet, L2.tRetN, L2.tAsg, L2.gName, L2.tIfS, L2.tDrop, L2.tCons, L2.tNil, L2.tC, L2.tVar, L2.tCB, L2.tAndV, L2.tOrV, L2.tNotV, L2.tB, L2.tTest, L2.tOp, L2.tUn, L2.tNot, L2.tAnd, L2.tOr, L2.tIf, L2.tCall, L2.tTup, L2.tLst, L2.tNotT, L2.tYes, L2.gTup, L2.gCons, L2.gNil, L2.gSub, L2.tBM0, L2.tBM, L2.tWhile, L2.tFor, L2.iRng1, L2.iRng2, L2.tAugS, Tw.iEnumT, L2.tCKw, L2.tAug, L2.ipI, RT.iRevA, L2.iRevR, L2.tPar, L2.tPar3, L2.tSl, L2.tNoPart, L2.tPart, Tw.tRevT, L2.rAdd, L2.rSub, L2.tBits])
namespace K25
open PySem PySem.Spec PyProof.Rows L2 Tw
/-! whether all is right -/
def Sr (d : PyData) : Prop := PyData.showable d = true ∧ PyData.leavesShort 300 d = true ∧ PyData.bulk d ≤ 200
theorem sr_ints : ∀ {r : List Int}, (∀ c ∈ r, c.natAbs < 2 ^ 803) → PyData.showableAll (r.map PyData.int) = true ∧ PyData.leavesShortAll 300 (r.map PyData.int) = true ∧ PyData.bulkAll (r.map PyData.int) = r.length
  | [], _ => ⟨rfl, rfl, rfl⟩
  | c :: r, h => by
    have hc := h c (List.mem_cons_self ..)
    have ih := sr_ints (r := r) fun x hx => h x (List.mem_cons_of_mem _ hx)
    have lc : c.natAbs.log2 < 803 := by
      by_cases z : c.natAbs = 0
      · rw [z]; decide
      · exact (Nat.log2_lt z).mpr hc
    have hs : PyData.showable (.int c) = true := by rw [PyData.showable, decide_eq_true (by omega)]
    have hl : PyData.leavesShort 300 (.int c) = true := by
      have : (PyData.shown (.int c)).length ≤ 300 := by
        show (Str.ofString (toString c)).length ≤ 300
        rw [PySem.ofString_length]
        exact Nat.le_trans (int_text_length_le10 (k := 250) (by decide) (Nat.lt_trans hc (by decide +kernel))) (by decide)
      rw [PyData.leavesShort, decide_eq_true this]
    have hb : PyData.bulk (.int c) = 0 := by rw [PyData.bulk] <;> nofun
    rw [List.map_cons]
    refine ⟨by rw [PyData.showableAll, hs, ih.1]; rfl, by rw [PyData.leavesShortAll, hl, ih.2.1]; rfl, ?_⟩
    rw [PyData.bulkAll, ih.2.2, List.length_cons, hb]
    omega
theorem sr_row {r : List Int} (h : ∀ c ∈ r, c.natAbs < 2 ^ 803) (l : r.length ≤ 200) : Sr (rowD r) := by
  have := sr_ints h
  unfold rowD
  exact ⟨by rw [PyData.showable]; exact this.1, by rw [PyData.leavesShort]; exact this.2.1, by rw [PyData.bulk, this.2.2]; exact l⟩
def swv {α : Type} : List α → List α
  | [x, p] => [p, x]
  | us => us
theorem swv_rel {zs : List V} {us : List Value} (r : Vals zs us) (h : us.length = 2) : Vals (swv zs) (swv us) := by
  cases r with
  | nil => simp at h
  | cons r1 r2 =>
    cases r2 with
    | nil => simp at h
    | cons r3 r4 =>
      cases r4 with
      | nil => exact .cons r3 (.cons r1 .nil)
      | cons _ _ => simp at h
def rowS (c : Int) (r : List Int) : List Int := trimI (sclR c r)
theorem sb_nm (r : List Int) : SB (nm r) r := fun c hc => nm_mem hc
def spRS' : Sp := fun vs H Q _ => ∃ (u : V) (r : List Int) (c : Int), vs = [u, .int c] ∧ Ro H u r ∧ r.length ≤ 100 ∧ c.natAbs < 2 ^ 64 ∧ ∀ z H', Same H H' → Ro H' z (rowS c r) → Q z H'
theorem rs_imp (vs : List V) (H : Hp) (Q : VK) (E : XK) (h : spRS' vs H Q E) : spLScaled vs H Q E := by
  obtain ⟨u, r, c, rfl, hu, lr, hc, q⟩ := h
  refine ⟨u, r, c, nm r, rfl, hu, lr, hc, sb_nm r, fun z t H' s' rt okt _ _ gt => q z H' s' ?_⟩
  rwa [show rowS c r = t from row_ext (okR_trim _) okt fun k => by unfold rowS; rw [g_trim, g_scl, gt]]
theorem show_row {K : PySem.W.Frag} {H : Hp} {a : Addr} {x : V} {r : List Int} {Q : VK} (w : We a H) (rx : Ro H x r) (hr : nm r < 2 ^ 803) (lr : r.length ≤ 200) (q : Q (.str (rowD r).shown) H) : rShow K [x] H Q := by
  obtain ⟨a1, a2, a3⟩ := sr_row (r := r) (fun c hc => Nat.lt_of_le_of_lt (nm_mem hc) hr) lr
  have da := da_row w rx
  obtain ⟨p, rfl, e⟩ := rx
  refine ⟨p, rowD r, rfl, da.dp (nice_row r).1, (nice_row r).shaped (by decide), a1, ?_, q⟩
  have h := PyData.shown_le_bulk 300 (by decide) (rowD r) a2
  refine Nat.le_trans h (Nat.le_trans ?_ (show 16777216 ≤ sizeLine by decide))
  omega
theorem po_kp {a : Addr} {H H' : Hp} {v : V} {p : List (List Int)} (w : We a H) (k : Kp a H H') (h : Po H v p) : Po H' v p := by
  obtain ⟨q5, ys, rfl, e5, r5⟩ := h
  exact ⟨q5, ys, rfl, k _ _ (We.nt w e5) e5, r5.kt (kp_kt w k)⟩
theorem po_same {H H' : Hp} {v : V} {p : List (List Int)} (s : Same H H') (h : Po H v p) : Po H' v p := by
  obtain ⟨q5, ys, rfl, e5, r5⟩ := h
  exact ⟨q5, ys, rfl, s _ _ e5, r5.kt (Kt.of s)⟩
theorem sum_le {p : List (List Int)} {B : Nat} (h : ∀ r ∈ p, nm r ≤ B) : sumN p ≤ p.length * B := by
  unfold sumN
  induction p with
  | nil => simp
  | cons r p ih =>
    have h1 := h r (List.mem_cons_self ..)
    have := ih fun x hx => h x (List.mem_cons_of_mem _ hx)
    rw [List.map_cons, List.sum_cons, List.length_cons, Nat.add_mul]
    omega
theorem good_drawn {p : List (List Int)} (h : Drawn p) : Good p := by
  refine ⟨h.1, h.2.1, h.2.2.1, fun r hr => by have := (h.2.2.2 r hr).1; omega, ?_⟩
  have a := sum_le fun r hr => (h.2.2.2 r hr).2
  have b := Nat.mul_le_mul_right 1500000 h.2.2.1
  have : (4 : Nat) * 1500000 < 2 ^ 50 := by decide
  omega
/-- the shared part -/
structure Sh (v u : List Int) : Prop where
  okv : okR v
  oku : okR u
  nu : u ≠ []
  lv : v.length ≤ 2
  lu : u.length ≤ 2
  bv : nm v ≤ 1000000
  bu : nm u ≤ 2
theorem sh_good {v u : List Int} (h : Sh v u) : Good [v, u] := by
  refine ⟨⟨fun r hr => ?_, fun r hr => ?_⟩, by simp, by simp, fun r hr => ?_, ?_⟩
  · simp at hr; rcases hr with rfl | rfl
    · exact h.okv
    · exact h.oku
  · simp at hr; rw [← hr]; exact h.nu
  · simp at hr; rcases hr with rfl | rfl
    · have := h.lv; omega
    · have := h.lu; omega
  · have a := h.bv
    have b := h.bu
    unfold sumN
    have : (1000002 : Nat) < 2 ^ 50 := by decide
    simp
    omega
structure Half (p : List (List Int)) : Prop where
  ok : okP p
  ne : p ≠ []
  l2 : p.length ≤ 2
  rows : ∀ r ∈ p, r.length ≤ 3 ∧ nm r ≤ 1500000
theorem line_good {p : List (List Int)} {v u : List Int} (hp : Half p) (h : Sh v u) : Good (lineT p v u) := by
  have l := hp.l2
  refine ⟨lineT_ok hp.ok hp.ne h.oku h.nu, by rw [lineT_len]; omega, by rw [lineT_len]; omega, fun r hr => ?_, ?_⟩
  · have := lineT_rows (L := 3) (fun r hr => (hp.rows r hr).1) h.lv h.lu (by decide) r hr
    omega
  · have a := lineT_nm (p := p) (v := v) (u := u)
    have b := sum_le fun r hr => (hp.rows r hr).2
    have c := Nat.mul_le_mul_right 1500000 l
    have d : sumN p * (nm v + nm u) ≤ 3000000 * 1000002 := Nat.mul_le_mul (by omega) (by have := h.bv; have := h.bu; omega)
    have : (3000000 * 1000002 : Nat) < 2 ^ 50 := by decide
    omega
theorem ev_rsl (x : Int) {p q : List (List Int)} (h : p.length ≤ 4) : ev x (resT p q) = rsl (p.map (ev x)) (q.map (ev x)) := by
  have gF : ∀ p : List (List Int), g (p.map (ev x)) = fun i => ev x (rw' p i) := fun p => funext fun i => g_map_ev _ p i
  unfold rsl
  rw [List.length_map, List.length_map, gF, gF, ev_resT _ h]
def sgnI (k : Nat) : Int := if k % 2 = 0 then 1 else -1
theorem res_swap {p q : List (List Int)} (hp : Good p) (hq : Good q) : resT q p = rowS (sgnI ((p.length - 1) * (q.length - 1))) (resT p q) := by
  refine ev_inj (okR_trim _) (okR_trim _) fun x => ?_
  unfold rowS
  rw [ev_trim, ev_scl, ev_rsl x hp.2.2.1, ev_rsl x hq.2.2.1]
  have := rsl_ex (F := p.map (ev x)) (G := q.map (ev x)) (by rw [List.length_map]; exact hp.2.2.1) (by rw [List.length_map]; exact hq.2.2.1) (by rw [List.length_map]; exact hp.2.1) (by rw [List.length_map]; exact hq.2.1)
  rw [this, List.length_map, List.length_map]
  unfold sgnI
  split
  · rw [Int.one_mul]
  · rw [Int.neg_mul, Int.one_mul]
theorem res_nm {p q : List (List Int)} (hp : Good p) (hq : Good q) : nm (resT p q) < 2 ^ 401 := by
  obtain ⟨a, _, _, d⟩ := szOf_facts hp.1 hq.1 hp.2.1 hq.2.1 hp.2.2.1 hq.2.2.1 hp.2.2.2.2 hq.2.2.2.2
  omega
theorem res_len {p q : List (List Int)} (hp : Good p) (hq : Good q) : (resT p q).length ≤ 100 :=
  Nat.le_trans (resT_len (A := 4) (B := 4) hp.2.2.1 hp.2.2.2.1 hq.2.2.2.1) (by have := hp.2.2.1; have := hq.2.2.1; omega)
theorem roa_take {H : Hp} {xs : List V} {rs : List (List Int)} (k : Nat) (h : RoA H xs rs) : RoA H (xs.take k) (rs.take k) := ⟨by rw [List.length_take, List.length_take, h.1], fun i v e => by
  rw [List.getElem?_take] at e ⊢
  split at e
  · rename_i c
    obtain ⟨r, e1, e2⟩ := h.2 i v e
    exact ⟨r, by rw [if_pos c]; exact e1, e2⟩
  · cases e⟩
theorem sl_two {K : PySem.W.Frag} {H : Hp} {p : Addr} {xs : List V} {Q : VK} (e : H p = some (.tup xs)) (q : ∀ z H', Same H H' → H' z = some (.tup (xs.take 2)) → Q (.ref z) H') : rSlA K (.ref p) none (some 2) H Q := by
  refine ⟨p, xs, rfl, SqT.of e, fun c => ?_, fun c t nt => ?_⟩
  · refine q p H (Same.refl _) ?_
    have c1 := c.2
    have : HT.sIx xs.length xs.length (some ((2 : Nat) : Int)) = min 2 xs.length := HT.sIx_nat ..
    rw [show (some (2 : Int)) = some ((2 : Nat) : Int) from rfl, this] at c1
    rw [e, List.take_of_length_le (by omega)]
  · refine q t _ (same_new nt) ?_
    rw [upd_same]
    have : HT.sIx xs.length xs.length (some ((2 : Nat) : Int)) = min 2 xs.length := HT.sIx_nat ..
    unfold L2.cutV
    rw [HT.sIx_none, show (some (2 : Int)) = some ((2 : Nat) : Int) from rfl, this]
    rcases Nat.lt_or_ge xs.length 2 with z | z
    · rw [Nat.min_eq_right (by omega), List.take_of_length_le (l := xs) (i := 2) (by omega)]
      simp
    · rw [Nat.min_eq_left z]; simp
def halfOf (p : List (List Int)) : List (List Int) := if (rw' (p.take 2) ((p.take 2).length - 1)) = [] then [[2]] else p.take 2
theorem half_ok {p : List (List Int)} (h : Drawn p) : Half (halfOf p) := by
  unfold halfOf
  split
  · exact ⟨⟨fun r hr c hc => by simp at hr; subst hr; simp at hc; omega, fun r hr => by simp at hr; rw [← hr]; simp⟩, by simp, by simp, fun r hr => by simp at hr; subst hr; decide⟩
  · rename_i c
    have l1 := h.2.1
    have lt : (p.take 2).length = min 2 p.length := List.length_take ..
    refine ⟨⟨fun r hr => h.1.1 r (List.mem_of_mem_take hr), fun r hr e => c ?_⟩, fun z => by rw [z] at lt; simp at lt; omega, by omega, fun r hr => h.2.2.2 r (List.mem_of_mem_take hr)⟩
    rw [List.getLast?_eq_getElem?] at hr
    unfold rw'
    rw [List.getD_eq_getElem?_getD, hr, e]
    rfl
def spRight : Sp := fun vs H Q _ => ∃ a, vs = [.ref a] ∧ We a H ∧ ∀ H', Kp a H H' → Q (.bl true) H'
theorem pt_half {a : Addr} {H : Hp} {z T : V} {p : List (List Int)} {v u : List Int} {Q : VK} {E : XK} (w : We a H) (po : Po H z p) (hp : Half p) (poT : Po H T [v, u]) (sh : Sh v u)
    (q : ∀ z' H', Same H H' → Po H' z' (lineT p v u) → Good (lineT p v u) → Q z' H') : spPTimes [z, T] H Q E := by
  refine ⟨z, T, p, [v, u], 1500000, 1000000, rfl, po, poT, ⟨a, w⟩, ⟨by have := hp.l2; omega, fun r hr => ⟨by have := (hp.rows r hr).1; omega, fun c hc => by have := nm_mem hc; have := (hp.rows r hr).2; omega⟩⟩, ⟨by simp, fun r hr => ?_⟩, ⟨by decide +kernel, by decide +kernel⟩, fun z t H' s' pt okt _ ct => ?_⟩
  · simp at hr
    rcases hr with rfl | rfl
    · exact ⟨by have := sh.lv; omega, fun c hc => by have := nm_mem hc; have := sh.bv; omega⟩
    · exact ⟨by have := sh.lu; omega, fun c hc => by have := nm_mem hc; have := sh.bu; omega⟩
  · have e := lineT_eq hp.ok hp.ne sh.oku sh.nu okt ct
    subst e
    exact q z H' s' pt (line_good hp sh)
theorem mx_row {p : List (List Int)} {z : Int} (hp : ∀ r ∈ p, r.length ≤ 5) (hz : z ∈ (p.map fun r => (r.length : Int) - 1) ++ [0]) (h : ∀ y, y ∈ (p.map fun r => (r.length : Int) - 1) ++ [0] → y ≤ z) : ∃ A : Nat, z = (A : Int) ∧ (∀ r ∈ p, r.length ≤ A + 1) ∧ A ≤ 4 := by
  have h0 := h 0 (by simp)
  refine ⟨z.toNat, by omega, fun r hr => ?_, ?_⟩
  · have := h ((r.length : Int) - 1) (List.mem_append_left _ (List.mem_map_of_mem (f := fun r : List Int => (r.length : Int) - 1) hr))
    omega
  · rcases List.mem_append.mp hz with hz | hz
    · obtain ⟨r, hr, rfl⟩ := List.mem_map.mp hz
      have := hp r hr
      omega
    · simp at hz; omega
end K25

set_option Elab.async false
set_option linter.all false
set_option maxRecDepth 100000
set_option maxHeartbeats 8000000
local macro_rules | `(tactic| walk_at "rd") => `(tactic| dsimp only [Evl.tCut, L2.tSeq, L2.tNext, L2.tRet, L2.tRetN, L2.tAsg, L2.gName, L2.tIfS, L2.tDrop, L2.tCons, L2.tNil, L2.tC, L2.tVar, L2.tCB, L2.tAndV, L2.tOrV, L2.tNotV, L2.tB, L2.tTest, L2.tOp, L2.tUn, L2.tNot, L2.tAnd, L2.tOr, L2.tIf, L2.tCall, L2.tTup, L2.tLst, L2.tNotT, L2.tYes, L2.gTup, L2.gCons, L2.gNil, L2.gSub, L2.tBM0, L2.tBM, L2.tWhile, L2.tFor, L2.iRng1, L2.iRng2, L2.tAugS, Tw.iEnumT, L2.tCKw, L2.tAug, L2.ipI, RT.iRevA, L2.iRevR, L2.tPar, L2.tPar3, L2.tSl, L2.tNoPart, L2.tPart, Tw.tRevT, L2.rAdd, L2.rSub, L2.tBits])
namespace K25
open PySem PySem.Spec PyProof.Rows L2 Tw
section
variable {P : Program} {w : World} {K : PySem.W.Frag} {mg : Str → Option Value} {base : Heap}
theorem scRight : FnScope ["_law_well_here", "_law_one", "_law_two", "_law_shared", "_law_n", "_law_m", "_law_most", "_law_row_here", "_law_told", "_law_spot"] ["_law_well_here"] (defScope sRight) := ⟨rfl, rfl, rfl, by decide +kernel, rfl, by decide +kernel, by decide +kernel⟩
theorem ok_right (D : Def K mg "_law_right" sRight ["_law_well_here"]) (nb : Nb mg) (DRE : Def K mg "resultant" sRes ["poly", "other"]) (cre : Cal P w K mg base "resultant" 38 ["poly", "other"] spRes)
    (c1 : Cal P w K mg base "_law_draw" 1 ["_law_well_here", "_law_many"] spDraw) (crow : Cal P w K mg base "_law_row" 3 ["_law_well_here", "_law_many"] spRowM) (cso : Cal P w K mg base "_law_some" 4 ["_law_well_here"] spSome)
    (cs : Cal P w K mg base "_law_scaled" 2 ["_law_row_here", "_law_by"] spRS') (cpt : Cal P w K mg base "_law_poly_times" 3 ["_law_one", "_law_two"] spPTimes) (cir : Cal P w K mg base "_law_is_row" 1 ["_law_thing"] spIsRow)
    (cv : Cal P w K mg base "_law_whole" 1 ["_law_row_here", "_law_spot"] spVal) (cde : Cal P w K mg base "_law_determinant" 33 ["_law_table_here"] spDet) (cta : Cal P w K mg base "_law_table" 2 ["_law_one", "_law_two", "_law_spot"] spTab) : CalG P w K mg base "_law_right" 40 ["_law_well_here"] spRight := by
  refine D.okG scRight (fun vs H Q E h => ?_) (fun f cdv A out s H vs Q E hq hr h => ?_)
  · obtain ⟨a, rfl, _⟩ := h; rfl
  obtain ⟨a, rfl, hw, q⟩ := h
  have hu70 : (A.deeper (envOfC "_law_right" (defScope sRight) s.heap.objs.size f cdv)).units + 70 < cLine := by have := hr.un; omega
  refine ⟨_, Evl.pss_cut (ps_par (i := 1) (j := 2) rfl scRight.nd rfl rfl (by decide) rfl rfl (pa_cons (pe_cal cso hr (by omega) (by rfl) (pa_cons (pv 0) pa_nil)) (pa_cons (pe_cal cso hr (by omega) (by rfl) (pa_cons (pv 0) pa_nil)) pa_nil)) rfl)
    (Evl.pss_cut (ps_if (pt_cmpR op_eq (pe_cal c1 hr (by omega) (by rfl) (pa_cons (pv 0) (pa_cons pe_int pa_nil))) pe_int (nomark _))
      (Evl.pss_cut (ps_set (i := 3) scRight.nd rfl (Or.inl rfl) (pe_tup (pa_cons (pe_cal crow hr (by omega) (by rfl) (pa_cons (pv 0) (pa_cons pe_int pa_nil))) (pa_cons (pe_ifExp (pt_cmpR op_eq (pe_cal c1 hr (by omega) (by rfl) (pa_cons (pv 0) (pa_cons pe_int pa_nil))) pe_int (nomark _)) (pe_tup (pa_cons pe_int (pa_cons pe_int pa_nil))) (pe_tup (pa_cons pe_int pa_nil))) pa_nil))))
    (pss_one (ps_par (i := 1) (j := 2) rfl scRight.nd rfl rfl (by decide) rfl rfl (pa_cons (pe_cal cpt hr (by omega) (by rfl) (pa_cons (pe_ifExp (PW.pt (pw_and (pt_cmpR (op_neT0 hr.units) (pe_slice sl_tupA (pv 1) po_none (po_some pe_int)) (pe_tup pa_nil) (nomark _)) (pw_and1 (pt_cmpR (op_neT0 hr.units) (pe_ix (r := rIxT K) ix_tup (pe_slice sl_tupA (pv 1) po_none (po_some pe_int)) (pe_un un_neg pe_int) (fun _ _ => rfl)) (pe_tup pa_nil) (nomark _))))) (pe_slice sl_tupA (pv 1) po_none (po_some pe_int)) (pe_tup (pa_cons (pe_tup (pa_cons pe_int pa_nil)) pa_nil))) (pa_cons (pv 3) pa_nil))) (pa_cons (pv 3) pa_nil)) rfl)))
      (pss_nil))
    (Evl.pss_cut (ps_par (i := 4) (j := 5) rfl scRight.nd rfl rfl (by decide) rfl rfl (pa_cons (pe_op op_sub (pe_callB (id := "len") (r := rLn K) call_len_seq (by rfl) nb.len PySem.boot_len (pa_cons (pv 1) pa_nil)) pe_int) (pa_cons (pe_op op_sub (pe_callB (id := "len") (r := rLn K) call_len_seq (by rfl) nb.len PySem.boot_len (pa_cons (pv 2) pa_nil)) pe_int) pa_nil)) rfl)
    (Evl.pss_cut (ps_set (i := 6) scRight.nd rfl (Or.inl rfl) (pe_op op_add (pe_op op_mulW (pv 5) (pe_callB (id := "max") (r := rMax K) (cr_max rfl) (by rfl) nb.max (by decide +kernel) (pa_cons (pe_op op_cat (pe_lc (own := [("_law_row_here", 7)]) (g := gName 7) (tt := tYes) rfl scRight.nd (pi_tup (pv 1)) (blkOk_by (N := ["_law_well_here", "_law_one", "_law_two", "_law_shared", "_law_n", "_law_m", "_law_most", "_law_row_here", "_law_told", "_law_spot"]) (sc := defScope sRight) (by decide +kernel)) (fun _ _ _ _ _ => pg_name (i := 7) scRight.nd rfl (Or.inl rfl)) (fun _ _ _ _ _ => pts_nil) (fun _ _ _ _ _ => (pe_op op_sub (pe_callB (id := "len") (r := rLn K) call_len_seq (by rfl) nb.len PySem.boot_len (pa_cons (pv 7) pa_nil)) pe_int))) (pe_lst (pa_cons pe_int pa_nil))) pa_nil))) (pe_op op_mulW (pv 4) (pe_callB (id := "max") (r := rMax K) (cr_max rfl) (by rfl) nb.max (by decide +kernel) (pa_cons (pe_op op_cat (pe_lc (own := [("_law_row_here", 7)]) (g := gName 7) (tt := tYes) rfl scRight.nd (pi_tup (pv 2)) (blkOk_by (N := ["_law_well_here", "_law_one", "_law_two", "_law_shared", "_law_n", "_law_m", "_law_most", "_law_row_here", "_law_told", "_law_spot"]) (sc := defScope sRight) (by decide +kernel)) (fun _ _ _ _ _ => pg_name (i := 7) scRight.nd rfl (Or.inl rfl)) (fun _ _ _ _ _ => pts_nil) (fun _ _ _ _ _ => (pe_op op_sub (pe_callB (id := "len") (r := rLn K) call_len_seq (by rfl) nb.len PySem.boot_len (pa_cons (pv 7) pa_nil)) pe_int))) (pe_lst (pa_cons pe_int pa_nil))) pa_nil)))))
    (Evl.pss_cut (ps_set (i := 8) scRight.nd rfl (Or.inl rfl) (pe_cal cre hr (by omega) (by rfl) (pa_cons (pv 1) (pa_cons (pv 2) pa_nil))))
    (Evl.pss_cut (ps_if (PW.pt (pw_or (pt_not (pt_val (pe_cal cir hr (by omega) (by rfl) (pa_cons (pv 8) pa_nil)))) (pw_or1 (pt_cmpR op_gt (pe_callB (id := "len") (r := rLn K) call_len_seq (by rfl) nb.len PySem.boot_len (pa_cons (pv 8) pa_nil)) (pe_op op_add (pv 6) pe_int) (nomark _)))))
      (pss_one (ps_ret pe_bl))
      (pss_nil))
    (Evl.pss_cut (ps_for PassesOwn.never rfl (pi_range2 (by rfl) nb.rng (pa_cons (pe_op op_sub pe_int (pe_op op_fdiv (pv 6) pe_int)) (pa_cons (pe_op op_sub (pe_op op_add (pv 6) pe_int) (pe_op op_fdiv (pv 6) pe_int)) pa_nil))) (pg_name (i := 9) scRight.nd rfl (Or.inl rfl))
      (pss_one (ps_if (pt_cmpR op_ne (pe_cal cv hr (by omega) (by rfl) (pa_cons (pv 8) (pa_cons (pv 9) pa_nil))) (pe_cal cde hr (by omega) (by rfl) (pa_cons (pe_cal cta hr (by omega) (by rfl) (pa_cons (pv 1) (pa_cons (pv 2) (pa_cons (pv 9) pa_nil)))) pa_nil)) (nomark _))
      (pss_one (ps_ret pe_bl))
      (pss_nil))))
    (pss_one (ps_ret (pe_cmpR op_eq (pe_callB (id := "repr") (r := rShow K) (call_show hq hu70) (by rfl) nb.repr (by decide +kernel) (pa_cons (pe_calK (ks := ["other", "poly"]) swv swv cre DRE hr (by omega) (by rfl) (fun _ _ _ _ _ _ us hl => match us, hl with | [_, _], _ => rfl) swv_rel (pk_cons (pv 1) (pk_cons (pv 2) pk_nil)) (fun zs H Q h => by obtain ⟨v0, e0, v1, e1, q⟩ := h; exact ⟨v0, e0, v1, e1, rfl, q⟩)) pa_nil)) (pe_callB (id := "repr") (r := rShow K) (call_show hq hu70) (by rfl) nb.repr (by decide +kernel) (pa_cons (pe_cal cs hr (by omega) (by rfl) (pa_cons (pv 8) (pa_cons (pe_op op_sub pe_int (pe_op op_mulW pe_int (pe_op op_sub (pe_op op_mulW (pv 4) (pv 5)) (pe_op op_mulW (pe_op op_fdiv (pe_op op_mulW (pv 4) (pv 5)) pe_int) pe_int)))) pa_nil))) pa_nil)) (nomark _)))))))))), ?_⟩
  walk_at "rd"
  refine ⟨fun σ H' => ∃ v1 v2 p q, σ = [some (.ref a), some v1, some v2, none, none, none, none, none, none, none] ∧ Kp a H H' ∧ We a H' ∧ Po H' v1 p ∧ Po H' v2 q ∧ Drawn p ∧ Drawn q, ?_, ?_⟩
  · exact ⟨_, rfl, a, rfl, hw, fun v1 p H1 k1 w1 po1 dp => ⟨_, rfl, a, rfl, w1, fun v2 q' H2 k2 w2 po2 dq => ⟨_, _, rfl, v1, v2, p, q', rfl, k1.trans k2, w2, po_kp w1 k2 po1, po2, dp, dq⟩⟩⟩
  rintro σ1 H1 ⟨v1, v2, p0, q0, rfl, k1, w1, po1, po2, dp, dq⟩
  refine ⟨fun σ H' => ∃ v1 v2 x3 p q, σ = [some (.ref a), some v1, some v2, x3, none, none, none, none, none, none] ∧ Kp a H H' ∧ We a H' ∧ Po H' v1 p ∧ Po H' v2 q ∧ Good p ∧ Good q, ?_, ?_⟩
  · refine ⟨_, rfl, a, 6, rfl, w1, by decide, by decide, fun d H2 d0 d6 k2 w2 => ⟨rfl, _, rfl, ite2 (fun c => ?_) (fun c => ?_)⟩⟩
    · refine ⟨fun σ H' => ∃ T x y v u, σ = [some (.ref a), some v1, some v2, some (.ref T), none, none, none, none, none, none] ∧ Kp a H1 H' ∧ We a H' ∧ H' T = some (.tup [x, y]) ∧ Ro H' x v ∧ Ro H' y u ∧ Sh v u, ?_, ?_⟩
      · refine ⟨_, rfl, a, 2, rfl, w2, by decide, by decide, fun x v H3 k3 w3 rx okv lv cv' => ?_⟩
        have bv : nm v ≤ 1000000 := nm_small (L := 2) (B := 500000) (by omega) cv'
        refine ⟨_, rfl, a, 2, rfl, w3, by decide, by decide, fun e H4 e0 e2 k4 w4 => ⟨rfl, _, rfl, ite2 (fun c => ?_) (fun c => ?_)⟩⟩
        · refine ⟨sz (by simp), fun y ny => ⟨sz (by simp), fun T nT => ?_⟩⟩
          have s5 := (same_new (o := .tup [.int 1, .int 1]) ny).trans (same_new (o := .tup [x, .ref y]) nT)
          exact ⟨T, x, .ref y, v, [1, 1], rfl, (k2.trans (k3.trans k4)).trans (Kp.of s5), w4.to s5, upd_same, (rx.kt (kp_kt w3 k4)).kt (Kt.of s5), ⟨y, rfl, same_new nT _ _ upd_same⟩, okv, (by intro c hc; simp at hc; omega), by simp, by omega, by simp, bv, by decide⟩
        · refine ⟨sz (by simp), fun y ny => ⟨sz (by simp), fun T nT => ?_⟩⟩
          have s5 := (same_new (o := .tup [.int 2]) ny).trans (same_new (o := .tup [x, .ref y]) nT)
          exact ⟨T, x, .ref y, v, [2], rfl, (k2.trans (k3.trans k4)).trans (Kp.of s5), w4.to s5, upd_same, (rx.kt (kp_kt w3 k4)).kt (Kt.of s5), ⟨y, rfl, same_new nT _ _ upd_same⟩, okv, (by intro c hc; simp at hc; omega), by simp, by omega, by simp, bv, by decide⟩
      rintro σ3 H3 ⟨T, x, y, v, u, rfl, k3, w3, eT, rx, ry, sh⟩
      have po13 := po_kp w1 k3 po1
      have hf := half_ok dp
      have poT : Po H3 (.ref T) [v, u] := ⟨T, _, rfl, eT, ((RoA.nil _).snoc rx).snoc ry⟩
      obtain ⟨pv, xs, rfl, e1, r1⟩ := po13
      have rt := roa_take 2 r1
      have lt2 : (p0.take 2).length = min 2 p0.length := List.length_take ..
      have p01 := dp.2.1
      have lx2 : (xs.take 2).length = (p0.take 2).length := rt.1
      have em : (xs.take 2).isEmpty = false := by
        cases h : xs.take 2 with
        | nil => rw [h] at lx2; simp at lx2; omega
        | cons a l => rfl
      have k13 := k1.trans k3
      have fin : ∀ Hz z, Same H3 Hz → Po Hz z (halfOf p0) → spPTimes [z, .ref T] Hz (fun x H1 => ∃ v, [some (V.ref a), some (V.ref pv), some v2, some (V.ref T), none, none, none, none, none, none][3]? = some (some v) ∧ ∃ w1 w2, [x, v] = [w1, w2] ∧ ∃ v1 v2_1 x3 p q, ([some (V.ref a), some (V.ref pv), some v2, some (V.ref T), none, none, none, none, none, none].set 1 (some w1)).set 2 (some w2) = [some (V.ref a), some v1, some v2_1, x3, none, none, none, none, none, none] ∧ Kp a H H1 ∧ We a H1 ∧ Po H1 v1 p ∧ Po H1 v2_1 q ∧ Good p ∧ Good q) E0 := fun Hz z sz' poz =>
        pt_half (w3.to sz') poz hf (po_same sz' poT) sh fun z' H' s' po' gd => ⟨_, rfl, z', .ref T, rfl, z', .ref T, _, lineT (halfOf p0) v u, [v, u], rfl, k13.trans (Kp.of (sz'.trans s')), w3.to (sz'.trans s'), po', po_same (sz'.trans s') poT, gd, sh_good sh⟩
      refine ⟨_, rfl, 2, rfl, sl_two e1 fun z1 Ha sa ez1 => ⟨sz (by simp), fun pa npa => ?_⟩⟩
      have tA := sa.trans (same_new (o := .tup []) npa)
      have ez1' := same_new (o := .tup []) npa _ _ ez1
      refine ⟨z1, pa, _, [], rfl, rfl, SqT.of ez1', SqT.of upd_same, rfl, true, by rw [em]; rfl, iteT ?_⟩
      generalize upd Ha pa (.tup []) = Hb at tA ⊢
      refine ⟨_, rfl, 2, rfl, sl_two (tA _ _ e1) fun z2 Hc sc ez2 => ?_⟩
      obtain ⟨vl, evl, rvl⟩ := rt.get (k := (p0.take 2).length - 1) (by omega)
      rw [← rw_some (show (p0.take 2).length - 1 < (p0.take 2).length by omega)] at rvl
      have tC := tA.trans sc
      refine ⟨1, rfl, z2, _, -1, vl, rfl, rfl, SqT.of ez2, atI_end (by rw [List.getLast?_eq_getElem?, lx2]; exact evl), sz (by simp), fun pb npb => ?_⟩
      obtain ⟨pl, rfl, el⟩ := rvl.kt (Kt.of tC)
      have tD := tC.trans (same_new (o := .tup []) npb)
      refine ⟨pl, pb, _, [], rfl, rfl, SqT.of (same_new (o := .tup []) npb _ _ el), SqT.of upd_same, rfl, ?_⟩
      generalize upd Hc pb (.tup []) = Hd at tD ⊢
      by_cases ce : rw' (p0.take 2) ((p0.take 2).length - 1) = []
      · rw [ce]
        have hh : halfOf p0 = [[2]] := by unfold halfOf; rw [if_pos ce]
        refine ⟨false, rfl, iteF ⟨sz (by simp), fun t1 n1 => ⟨sz (by simp), fun t2 n2 => ⟨_, rfl, ?_⟩⟩⟩⟩
        have s5 := (same_new (o := .tup [.int 2]) n1).trans (same_new (o := .tup [.ref t1]) n2)
        refine fin _ (.ref t2) (tD.trans s5) ?_
        rw [hh]
        exact ⟨t2, [.ref t1], rfl, upd_same, (RoA.nil _).snoc ⟨t1, rfl, same_new n2 _ _ upd_same⟩⟩
      · have hh : halfOf p0 = p0.take 2 := by unfold halfOf; rw [if_neg ce]
        have hm : ((rw' (p0.take 2) ((p0.take 2).length - 1)).map V.int).isEmpty = false := by
          cases h : rw' (p0.take 2) ((p0.take 2).length - 1) with
          | nil => exact absurd h ce
          | cons a l => rfl
        rw [hm]
        refine ⟨true, rfl, iteT ⟨_, rfl, 2, rfl, sl_two (tD _ _ e1) fun z3 He se ez3 => ⟨_, rfl, ?_⟩⟩⟩
        refine fin He (.ref z3) (tD.trans se) ?_
        rw [hh]
        exact ⟨z3, _, rfl, ez3, rt.kt (Kt.of (tD.trans se))⟩
    · exact ⟨v1, v2, none, p0, q0, rfl, k1.trans k2, w2, po_kp w1 k2 po1, po_kp w1 k2 po2, good_drawn dp, good_drawn dq⟩
  rintro σ2 H2 ⟨v1, v2, x3, p, q', rfl, k2, w2, po1, po2, gp, gq⟩
  obtain ⟨pu, us, rfl, eu, ru⟩ := po1
  obtain ⟨pw, ws, rfl, ew, rv⟩ := po2
  have lu := ru.1
  have lw := rv.1
  obtain ⟨n, hn⟩ : ∃ n, p.length = n + 1 := ⟨p.length - 1, by have := gp.2.1; omega⟩
  obtain ⟨m, hm⟩ : ∃ m, q'.length = m + 1 := ⟨q'.length - 1, by have := gq.2.1; omega⟩
  have n3 : n ≤ 3 := by have := gp.2.2.1; omega
  have m3 : m ≤ 3 := by have := gq.2.2.1; omega
  refine ⟨fun σ H' => σ = [some (.ref a), some (.ref pu), some (.ref pw), x3, some (.int (n : Int)), some (.int (m : Int)), none, none, none, none] ∧ H' = H2, ?_, ?_⟩
  · refine ⟨_, rfl, pu, _, rfl, .inr (SqT.of eu), _, _, rfl, rfl, _, rfl, pw, _, rfl, .inr (SqT.of ew), _, _, rfl, rfl, _, _, rfl, ?_, rfl⟩
    rw [lu, lw, hn, hm]
    show [_, _, _, _, some (V.int (((n + 1 : Nat) : Int) - 1)), some (V.int (((m + 1 : Nat) : Int) - 1)), _, _, _, _] = _
    rw [show (((n + 1 : Nat) : Int) - 1) = (n : Int) by omega, show (((m + 1 : Nat) : Int) - 1) = (m : Int) by omega]
  rintro σ3 H3 ⟨rfl, rfl⟩
  refine ⟨fun σ H' => ∃ A B : Nat, σ = [some (.ref a), some (.ref pu), some (.ref pw), x3, some (.int (n : Int)), some (.int (m : Int)), some (.int ((m * A + n * B : Nat) : Int)), none, none, none] ∧ Same H3 H' ∧ (∀ r ∈ p, r.length ≤ A + 1) ∧ (∀ r ∈ q', r.length ≤ B + 1) ∧ A ≤ 4 ∧ B ≤ 4, ?_, ?_⟩
  · have one : ∀ {σ : L2.St} {Hs : Hp} {pu : Addr} {us : List V} {p : List (List Int)} {k : Nat} {R : VK}, Same H3 Hs → Good p → H3 pu = some (.tup us) → RoA H3 us p → σ[k]? = some (some (.ref pu)) → (∀ x : V, wipe ((wipe σ [7]).set 7 (some x)) [7] = wipe σ [7]) → (∀ x : V, ((wipe σ [7]).set 7 (some x))[7]? = some (some x)) → (∀ (A : Nat) H', Same H3 H' → (∀ r ∈ p, r.length ≤ A + 1) → A ≤ 4 → R (.int (A : Int)) H') →
      L2.tLc (L2.iTup K (L2.tVar k)) (L2.gName 7) L2.tYes (L2.tOp (rI0 fun i j => .int (i - j)) (L2.tCB (rLn K) (L2.tCons (L2.tVar 7) L2.tNil)) (L2.tC (.int 1))) [7] σ Hs (fun x H1 => (L2.tLst (L2.tCons (L2.tC (.int 0)) L2.tNil)) σ H1 fun y H2 => rCat x y H2 fun z H3 => rMax K [z] H3 R) := fun {σ Hs pu us p k R} ss gp eu ru ek hw h7 hR => by
      have lr := gp.2.2.2.1
      have l4 := gp.2.2.1
      refine lc_relT (S := Ro) (R := fun _ v k => v = V.int k) (g := fun r : List Int => (r.length : Int) - 1) (rs := p) (p := pu) (xs := us) stable_ro (stable_eq _) ek (ss _ _ eu) (ru.kt (Kt.of ss)) (by omega) hw (fun x d Ha hd' sa rx Z hZ => ?_) fun D ys Ha sa nD eD ry => ?_
      · obtain ⟨pd, rfl, ed⟩ := rx
        walk_at "rd"
        refine ⟨_, h7 _, pd, _, rfl, .inr (SqT.of ed), _, _, rfl, rfl, hZ _ _ (Same.refl _) ?_⟩
        rw [List.length_map]
      · have ey := RelA.eq_map ry
        have ly : ys.length ≤ 4 := by rw [ey, List.length_map, List.length_map]; exact l4
        walk_at "rd"
        refine ⟨sz (by simp), fun L nL => ?_⟩
        have s1 := sa.trans (same_new (o := .lst [.int 0]) nL)
        refine ⟨D, L, ys, _, rfl, rfl, same_new nL _ _ eD, upd_same, sz (by simp; omega), fun M nM => ?_⟩
        refine ⟨M, (p.map fun r => (r.length : Int) - 1) ++ [0], rfl, SqL.of ?_, by simp, fun z hz hm => ?_⟩
        · rw [upd_same, ey, List.map_append]; rfl
        · obtain ⟨A, rfl, h1, h2⟩ := mx_row lr hz hm
          exact hR A _ (ss.trans (s1.trans (same_new nM))) h1 h2
    refine ⟨_, rfl, one (Same.refl _) gp eu ru rfl (fun _ => rfl) (fun _ => rfl) fun A Ha sa hA A4 => ?_⟩
    refine ⟨_, _, rfl, rfl, Wd.cm (n := 10) (m := 10) (show ((m : Int)).natAbs < 2 ^ 10 by omega) (show ((A : Int)).natAbs < 2 ^ 10 by omega) (by decide), ?_⟩
    refine ⟨_, rfl, one sa gq ew rv rfl (fun _ => rfl) (fun _ => rfl) fun B Hb sb hB B4 => ?_⟩
    refine ⟨_, _, rfl, rfl, Wd.cm (n := 10) (m := 10) (show ((n : Int)).natAbs < 2 ^ 10 by omega) (show ((B : Int)).natAbs < 2 ^ 10 by omega) (by decide), _, _, rfl, rfl, A, B, ?_, sb, hA, hB, A4, B4⟩
    show [_, _, _, _, _, _, some (V.int ((m : Int) * (A : Int) + (n : Int) * (B : Int))), _, _, _] = _
    rw [show (m : Int) * (A : Int) + (n : Int) * (B : Int) = ((m * A + n * B : Nat) : Int) by rw [Int.natCast_add, Int.natCast_mul, Int.natCast_mul]]
  rintro σ4 H4 ⟨A, B, rfl, s4, hA, hB, A4, B4⟩
  have hlen : (resT p q').length ≤ m * A + n * B + 1 := by
    have := resT_len (A := A) (B := B) gp.2.2.1 hA hB
    rw [hn, hm, Nat.add_sub_cancel, Nat.add_sub_cancel] at this
    exact this
  have hmost : m * A + n * B ≤ 24 := by
    have h1 := Nat.mul_le_mul m3 A4
    have h2 := Nat.mul_le_mul n3 B4
    omega
  generalize m * A + n * B = mo at hlen hmost
  have l100 := res_len gp gq
  have nmT := res_nm gp gq
  have w4 := w2.to s4
  have k4 := k2.trans (Kp.of s4)
  have po1 : Po H4 (.ref pu) p := ⟨pu, us, rfl, s4 _ _ eu, ru.kt (Kt.of s4)⟩
  have po2 : Po H4 (.ref pw) q' := ⟨pw, ws, rfl, s4 _ _ ew, rv.kt (Kt.of s4)⟩
  refine ⟨fun σ H' => ∃ z, σ = [some (.ref a), some (.ref pu), some (.ref pw), x3, some (.int (n : Int)), some (.int (m : Int)), some (.int (mo : Int)), none, some z, none] ∧ Same H4 H' ∧ Ro H' z (resT p q'), ?_, ?_⟩
  · exact ⟨_, rfl, _, rfl, a, .ref pu, .ref pw, p, q', rfl, w4, po1, po2, gp, gq, fun z H5 s5 rz => ⟨z, rfl, s5, rz⟩⟩
  rintro σ5 H5 ⟨z, rfl, s5, rz⟩
  refine ⟨fun σ H' => σ = [some (.ref a), some (.ref pu), some (.ref pw), x3, some (.int (n : Int)), some (.int (m : Int)), some (.int (mo : Int)), none, some z, none] ∧ Same H5 H', ?_, ?_⟩
  · refine ⟨_, rfl, a, z, _, rfl, w4.to s5, rz, okR_trim _, l100, fun H6 s6 => ⟨true, rfl, iteF ?_⟩⟩
    obtain ⟨pz, rfl, ez⟩ := rz
    refine ⟨_, rfl, pz, _, rfl, .inr (SqT.of (s6 _ _ ez)), _, rfl, _, _, rfl, rfl, _, _, rfl, rfl, _, rfl, ite2 (fun c => ?_) (fun c => ⟨rfl, s6⟩)⟩
    have c := of_decide_eq_true c
    rw [List.length_map] at c
    omega
  rintro σ6 H6 ⟨rfl, s6⟩
  have s46 := s5.trans s6
  have rz6 := rz.kt (Kt.of s6)
  refine ⟨fun σ H' => ∃ x9, σ = [some (.ref a), some (.ref pu), some (.ref pw), x3, some (.int (n : Int)), some (.int (m : Int)), some (.int (mo : Int)), none, some z, x9] ∧ Same H6 H', ?_, ?_⟩
  · refine ⟨_, rfl, _, _, rfl, rfl, ⟨by decide, by decide⟩, _, _, rfl, rfl, _, rfl, _, _, rfl, rfl, _, rfl, _, _, rfl, rfl, ⟨by decide, by decide⟩, _, _, rfl, rfl, _, _, rfl, ⟨by omega, by omega, by omega, by omega⟩, ?_⟩
    rw [show (((mo : Int) + 1 - (mo : Int) / 2) - (0 - (mo : Int) / 2)).toNat = mo + 1 by omega]
    refine for_rng (lo := 0 - (mo : Int) / 2) (n := mo + 1) (fun i σ H' => ∃ x9, σ = [some (.ref a), some (.ref pu), some (.ref pw), x3, some (.int (n : Int)), some (.int (m : Int)), some (.int (mo : Int)), none, some z, x9] ∧ Same H6 H') ?_ ?_ ?_
    · exact ⟨none, rfl, Same.refl _⟩
    · rintro i σ H7 hi ⟨x9, rfl, s7⟩
      walk_at "rd"
      have hx : (0 - (mo : Int) / 2 + (i : Int)).natAbs ≤ 64 := by omega
      generalize 0 - (mo : Int) / 2 + (i : Int) = x at hx
      refine ⟨_, rfl, _, rfl, z, resT p q', x, rfl, rz6.kt (Kt.of s7), l100, Nat.lt_trans nmT (by decide +kernel), hx, fun H8 s8 => ?_⟩
      have s48 := s46.trans (s7.trans s8)
      refine ⟨_, rfl, _, rfl, _, rfl, .ref pu, .ref pw, p, q', x, rfl, po_same s48 po1, po_same s48 po2, good_fine gp, good_fine gq, hx, fun D xs H9 s9 eD rD => ?_⟩
      refine ⟨D, xs, syl x p q', p.length - 1 + (q'.length - 1), rfl, eD, rD, syl_len x p q', by omega, syl_lens gp.2.1 gq.2.1, syl_wd gp gq hx, fun Ha sa => ?_⟩
      rw [det_syl gp gq]
      refine ⟨rfl, _, rfl, ?_⟩
      rw [decide_eq_true rfl]
      exact iteF ⟨_, rfl, s7.trans (s8.trans (s9.trans sa))⟩
    · rintro σ H7 h
      exact h
  rintro σ7 H7 ⟨x9, rfl, s7⟩
  have s47 := s46.trans s7
  refine ⟨_, rfl, _, rfl, a, .ref pw, .ref pu, q', p, rfl, w4.to s47, po_same s47 po2, po_same s47 po1, gq, gp, fun z1 H8 s8 rz1 => ?_⟩
  have nm1 := res_nm gq gp
  refine show_row ((w4.to s47).to s8) rz1 (Nat.lt_trans nm1 (by decide +kernel)) (by have := res_len gq gp; omega) ?_
  have bn : ∀ k : Nat, k ≤ 9 → Wd 10 (k : Int) := fun k hk => show ((k : Int)).natAbs < 2 ^ 10 by omega
  have nm9 : n * m ≤ 9 := Nat.mul_le_mul n3 m3
  have eP : (n : Int) * (m : Int) = ((n * m : Nat) : Int) := (Int.natCast_mul ..).symm
  refine ⟨_, rfl, _, rfl, _, rfl, _, _, rfl, rfl, Wd.cm (bn n (by omega)) (bn m (by omega)) (by decide), ?_⟩
  dsimp only
  rw [eP]
  generalize hk : n * m = k at nm9
  refine ⟨_, rfl, _, rfl, _, _, rfl, rfl, Wd.cm (bn n (by omega)) (bn m (by omega)) (by decide), ?_⟩
  have eP2 : (n : Int) * (m : Int) = (k : Int) := by rw [← Int.natCast_mul, hk]
  show rI CDiv (fun i j => V.int (i / j)) (V.int ((n : Int) * (m : Int))) (V.int 2) H8 _
  rw [eP2]
  refine ⟨_, _, rfl, rfl, ⟨by decide, by decide⟩, _, _, rfl, rfl, Wd.cm (n := 10) (m := 10) (show ((k : Int) / 2).natAbs < 2 ^ 10 by omega) (by decide : (2 : Int).natAbs < 2 ^ 10) (by decide), _, _, rfl, rfl, _, _, rfl, rfl, Wd.cm (n := 10) (m := 10) (by decide : (2 : Int).natAbs < 2 ^ 10) (show ((k : Int) - (k : Int) / 2 * 2).natAbs < 2 ^ 10 by omega) (by decide), _, _, rfl, rfl, ?_⟩
  have ec : (1 : Int) - 2 * ((k : Int) - (k : Int) / 2 * 2) = sgnI k := by
    unfold sgnI
    split <;> omega
  refine ⟨z, resT p q', sgnI k, ?_, (rz6.kt (Kt.of s7)).kt (Kt.of s8), l100, by unfold sgnI; split <;> decide, fun z2 H9 s9 rz2 => ?_⟩
  · show [z, V.int (1 - 2 * ((k : Int) - (k : Int) / 2 * 2))] = _
    rw [ec]
  have e := res_swap gp gq
  rw [hn, hm, Nat.add_sub_cancel, Nat.add_sub_cancel, hk] at e
  rw [← e] at rz2
  refine show_row (((w4.to s47).to s8).to s9) rz2 (Nat.lt_trans nm1 (by decide +kernel)) (by have := res_len gq gp; omega) ?_
  refine ⟨rfl, ?_⟩
  rw [decide_eq_true rfl]
  exact q _ (k4.trans (Kp.of (s47.trans (s8.trans s9))))
end
end K25

set_option Elab.async false
set_option linter.all false
set_option maxRecDepth 100000
set_option maxHeartbeats 8000000
local macro_rules | `(tactic| walk_at "rd") => `(tactic| dsimp only [Evl.tCut, L2.tSeq, L2.tNext, L2.tRet, L2.tRetN, L2.tAsg, L2.gName, L2.tIfS, L2.tDrop, L2.tCons, L2.tNil, L2.tC, L2.tVar, L2.tCB, L2.tAndV, L2.tOrV, L2.tNotV, L2.tB, L2.tTest, L2.tOp, L2.tUn, L2.tNot, L2.tAnd, L2.tOr, L2.tIf, L2.tCall, L2.tTup, L2.tLst, L2.tNotT, L2.tYes, L2.gTup, L2.gCons, L2.gNil, L2.gSub, L2.tBM0, L2.tBM, L2.tWhile, L2.tFor, L2.iRng1, L2.iRng2, L2.tAugS, Tw.iEnumT, L2.tCKw, L2.tAug, L2.ipI, RT.iRevA, L2.iRevR, L2.tPar, L2.tPar3, L2.tSl, L2.tNoPart, L2.tPart, Tw.tRevT, L2.rAdd, L2.rSub, L2.tBits])
namespace K25
open PySem PySem.Spec PyProof.Rows L2 Tw
/-! the law -/
section
variable {P : Program} {w : World} {K : PySem.W.Frag} {mg : Str → Option Value} {base : Heap}
theorem scLaw25 : FnScope ["_law_script", "_law_at"] ["_law_script"] (defScope sLaw) := ⟨rfl, rfl, rfl, by decide +kernel, rfl, by decide +kernel, by decide +kernel⟩
theorem ok_law (D : Def K mg "law" sLaw ["_law_script"]) (nb : Nb mg) (c1 : Cal P w K mg base "_law_well" 1 ["_law_script", "_law_at"] (spWell K)) (c2 : CalG P w K mg base "_law_right" 40 ["_law_well_here"] spRight) :
    CalG P w K mg base "law" 41 ["_law_script"] (spLaw K) := by
  refine D.okG scLaw25 (fun vs H Q E h => ?_) (fun f cdv A out s H vs Q E hq hr h => ?_)
  · obtain ⟨p, ns, rfl, _⟩ := h; rfl
  obtain ⟨p, ns, rfl, hp, hl, q⟩ := h
  refine ⟨_, pss_one (ps_ret (pe_callB (id := "all") (r := rAll K) (cr_all rfl) (by rfl) nb.all (by decide +kernel) (pa_cons
    (pe_lc (own := [("_law_at", 1)]) (g := gName 1) (tt := tYes) rfl scLaw25.nd (pi_range1 (by rfl) nb.rng (pa_cons (pe_callB (id := "max") (call_max2 rfl) (by rfl) nb.max (by decide +kernel) (pa_cons pe_int (pa_cons
        (pe_callB (id := "min") (call_min2 rfl) (by rfl) nb.min (by decide +kernel) (pa_cons (pe_callB (id := "len") call_len_seq (by rfl) nb.len PySem.boot_len (pa_cons (pv 0) pa_nil)) (pa_cons pe_int pa_nil))) pa_nil))) pa_nil))
      (blkOk_by (N := ["_law_script", "_law_at"]) (sc := defScope sLaw) (by decide +kernel)) (fun _ _ _ _ _ => pg_name (i := 1) scLaw25.nd rfl (Or.inl rfl)) (fun _ _ _ _ _ => pts_nil)
      (fun _ _ _ _ _ => pe_calG c2 hq hr (by decide) (by rfl) (pa_cons (pe_cal c1 hr (by decide) (by rfl) (pa_cons (pv 0) (pa_cons (pv 1) pa_nil))) pa_nil))) pa_nil))), ?_⟩
  walk_at "rd"
  generalize hm : (if (2 : Int) < ((ns.map V.int).length : Int) then (2 : Int) else ((ns.map V.int).length : Int)) = m
  generalize hk : (if m > 1 then m else 1) = k
  have k0 : 1 ≤ k := by rw [← hk]; split <;> omega
  have k1 : k ≤ 4 := by
    have : m ≤ 4 := by rw [← hm]; split <;> omega
    rw [← hk]; split <;> omega
  refine lc_rng (n := k.toNat) (fun _ => V.bl true) (fun R hR => ?_) (by omega) (wipe1 _ 1) (fun i H1 hi s1 R kR => ?_) fun L H1 s1 nL hL => ?_
  · refine ⟨.ref p, rfl, p, _, rfl, .inl hp, _, _, rfl, _, _, rfl, k, ?_, by omega, by omega, hR⟩
    rw [hm, hk]
  · refine ⟨.ref p, rfl, .int (0 + (i : Int)), rfl, p, ns, _, rfl, s1.seq hp, hl, by omega, fun a H2 s2 na w2 => ⟨a, rfl, w2, fun H3 k3 => kR H3 (same_kp s2 na k3)⟩⟩
  · refine ⟨L, (List.range k.toNat).map (fun _ => true), rfl, SqL.of (by rw [List.map_map]; exact hL), ?_⟩
    have e : ((List.range k.toNat).map (fun _ => true)).all id = true := by
      rw [List.all_eq_true]
      intro b hb
      obtain ⟨_, _, rfl⟩ := List.mem_map.mp hb
      rfl
    rw [e]
    exact q H1
end
end K25

set_option Elab.async false
set_option linter.all false
set_option maxRecDepth 100000
set_option maxHeartbeats 4000000
/-! the end of a law whose def wants quiet -/
namespace Tw
open PySem PySem.Spec PyProof.Rows L2

/-- a promise wide enough that says nothing of exceptions, over a heap in which the script alone may be known -/
theorem law_quietP {P : Program} {w : World} {K : PySem.W.Frag} {mg mb : Str → Option Value} {k : Nat} {fa a : Addr} {fd : FuncData}
    {x : Str} {sp : Sp} {s₁ : Shared} {vs : List Value} {ns : List Int} (KX : K.In s₁.heap) (hns : s₁.heap.Ns mainGlobals mg)
    (hb : s₁.heap.Ns builtinsNs mb) (hbb : ∀ x : Str, x ≠ "__name__" → mb x = bootBuiltins x) (hlim : s₁.heap.NoLimit) (hN : s₁.heap.NoSeer)
    (hg : s₁.gens = #[]) (ha : s₁.heap.get? a = some { cls := .type "list", data := .seq vs.toArray }) (hi : IntsAre vs ns)
    (hl : ns.length ≤ sizeLine) (hr : Room k callerA)
    (F : ∀ base : Heap, K.In base → base.Ns mainGlobals mg → base.NoSeer → FnG P w K mg base k fa fd [x] sp)
    (hbind : ∀ (s : Shared) (u : Value), BindsTo s fd ⟨[u], []⟩ [(x, u)])
    (hsp : ∀ H : Hp, Only H → SqL K H a (ns.map V.int) → sp [.ref a] H (fun v _ => v = .bl true) E0) :
    codeAny (model P w) callerA (.call (.ref fa) ⟨[.ref a], []⟩)
      (fun r s' => r = .ok (.ret (.bool true)) ∧ OldK s₁.heap s'.heap ∧ s'.os = s₁.os ∧ AllBare s'.gens) s₁ := by
  have hv := vals_ints hi
  have hn := hi.length
  have main : ∀ H : Hp, Only H → SqL K H a (ns.map V.int) → HOk P w H s₁.heap → (∀ b u, H b = some u → b = a ∧ K.lookup a = none) →
      codeAny (model P w) callerA (.call (.ref fa) ⟨[.ref a], []⟩)
        (fun r s' => r = .ok (.ret (.bool true)) ∧ OldK s₁.heap s'.heap ∧ s'.os = s₁.os ∧ AllBare s'.gens) s₁ := by
    intro H hO hS hok hA
    have dictFree : ∀ {b : Addr} {o : Obj} {es : Array DictEntry} {ep : Nat},
        s₁.heap.get? b = some o → o.data = .dict es ep → H b = none := by
      intro b o es ep e d
      cases q : H b with
      | none => rfl
      | some u =>
        obtain ⟨e1, _⟩ := hA b u q
        rw [e1, ha] at e
        injection e with e
        rw [← e] at d
        exact absurd d (by intro z; cases z)
    have nsB : ∀ {b : Addr} {m : Str → Option Value}, s₁.heap.Ns b m → (hidT s₁.heap H).Ns b m := by
      rintro b m ⟨o, es, ep, e, d, r⟩
      exact ⟨o, es, ep, hidT_get e (dictFree e d), d, r⟩
    have kB : K.In (hidT s₁.heap H) := by
      intro b o e
      refine hidT_get (KX b o e) ?_
      cases q : H b with
      | none => rfl
      | some u =>
        obtain ⟨e1, e2⟩ := hA b u q
        rw [e1, e2] at e
        cases e
    have hM : Mod K mg (hidT s₁.heap H) := by
      obtain ⟨mc, l1, l2⟩ := hlim
      exact ⟨kB, nsB hns, ⟨mb, nsB hb, hbb⟩, ⟨mc, nsB l1, l2⟩⟩
    have sB : (hidT s₁.heap H).NoSeer := by
      obtain ⟨⟨mc, c1, c2⟩, ⟨mm, m1, m2⟩, ⟨mb', i1, i2⟩, ⟨mg', bm, ob, g1, g2, g3, g4, g5⟩⟩ := hN
      refine ⟨⟨mc, nsB c1, c2⟩, ⟨mm, nsB m1, m2⟩, ⟨mb', nsB i1, i2⟩, ⟨mg', bm, ob, nsB g1, g2, hidT_get g3 ?_, g4, g5⟩⟩
      cases q : H bm with
      | none => rfl
      | some u =>
        obtain ⟨e1, _⟩ := hA bm u q
        rw [e1, ha] at g3
        injection g3 with g3
        rw [← g3] at g4
        exact absurd g4 (by simp)
    have noB : ∀ b : Addr, b ∈ frs ([] : List Env) → False := fun b z => by simp [frs] at z
    have e0 : Env0 P w K mg (hidT s₁.heap H) callerA [] s₁ H :=
      ⟨rfl, hM, fun b o e => of_hidT e, Nat.le_of_eq (hidT_size _ _), trivial, fun b z => (noB b z).elim, hok, .of_eq hg⟩
    have go := (F _ kB (nsB hns) sB).goes callerA [] s₁ H ⟨[.ref a], []⟩ [.ref a] [.ref a] (fun v _ => v = .bl true) E0 rfl hr e0
      (hbind s₁ (.ref a)) (.cons rfl .nil) (hsp H hO hS)
    refine codeAny_mono go fun r s' h => ?_
    cases r with
    | error e => exact False.elim h
    | ok fl =>
      cases fl with
      | next => exact False.elim h
      | brk => exact False.elim h
      | cont => exact False.elim h
      | ret u =>
        obtain ⟨v, H', os, bare, un, hok', rv, q⟩ := h
        subst q
        cases (show u = Value.bool true from rv)
        refine ⟨rfl, OldK.of_keep fun b o e => ?_, os, bare⟩
        cases q : H b with
        | none => exact un.keep b o e q (fun z => noB b z) (by simp)
        | some u =>
          cases hO b with
          | inl z => rw [q] at z; cases z
          | inr z =>
            obtain ⟨ob, xs, z⟩ := z
            have f1 := (hok b _ z).1
            have f2 := (hok' b _ (un.frzs b ob _ z)).1
            rw [e] at f1
            rw [f2, ← f1]
  cases hk : K.lookup a with
  | some o =>
    have e := KX a o hk
    rw [ha] at e
    injection e with e
    subst e
    refine main (fun _ => none) (fun _ => Or.inl rfl) (Or.inr ⟨_, vs.toArray, _, hk, rfl, rfl, rfl, ?_, by simpa using hv⟩) ?_ ?_
    · rw [List.size_toArray, hn]; exact hl
    · intro b u z; exact absurd z (by intro y; cases y)
    · intro b u z; exact absurd z (by intro y; cases y)
  | none =>
    let Ha : Hp := fun b => if b = a then some (.frz { cls := .type "list", data := .seq vs.toArray } (.lst (ns.map V.int))) else none
    have ya : ∀ b, b = a → Ha b = some (.frz { cls := .type "list", data := .seq vs.toArray } (.lst (ns.map V.int))) := fun b h => if_pos h
    have na : ∀ b, b ≠ a → Ha b = none := fun b h => if_neg h
    refine main Ha (fun b => ?_) (Or.inl (Or.inr ⟨_, ya a rfl⟩)) (fun b u z => ?_) (fun b u z => ?_)
    · by_cases h : b = a
      · exact Or.inr ⟨_, _, ya b h⟩
      · exact Or.inl (na b h)
    · by_cases h : b = a
      · rw [ya b h] at z
        injection z with z
        subst z h
        exact ⟨ha, by rw [List.length_map]; exact hl, vs, _, hv, ha⟩
      · rw [na b h] at z; cases z
    · by_cases h : b = a
      · exact ⟨h, hk⟩
      · rw [na b h] at z; cases z

theorem walk_quietP {l : PySem.W.OpenLaw} {n k : Nat} {q : Program} {loose : List Str} {XP : (Str → Option Value) → Heap → Prop}
    {YP : World → Heap → Prop} {d : DefRec} {K : Params → PySem.W.Frag} {sp : PySem.W.Frag → Sp} {x : Str} (hn : l.most = some n)
    (hn2 : n ≤ sizeLine) (hdf : d.params.defaults = []) (hr : Room k callerA)
    (hY : ∀ (w : World) (h : Heap), YP w h → (K w.params).In h) (hi : importsNone q = true)
    (F : ∀ (w : World) (mg : Str → Option Value) (fa : Addr) (h : Heap), (K w.params).In h → h.Ns mainGlobals mg →
      mg d.name = some (.ref fa) → ∃ fd : FuncData, (∀ (s : Shared) (u : Value), BindsTo s fd ⟨[u], []⟩ [(x, u)]) ∧
        ∀ base : Heap, (K w.params).In base → base.Ns mainGlobals mg → base.NoSeer → FnG l.prog w (K w.params) mg base k fa fd [x] (sp (K w.params)))
    (hsp : ∀ (K : PySem.W.Frag) (H : Hp) (a : Addr) (ns : List Int), ns.length ≤ n → Only H → SqL K H a (ns.map V.int) →
      sp K [.ref a] H (fun v _ => v = .bl true) E0) :
    PySem.W.WalkO q loose XP YP l.row.toRowW d [] (fun f vs => PySem.call f vs) := by
  refine Att.attach_call hn hdf ?_
  intro w s₀ s₁ mg mb fa o pm cd doc a vs ns G Y ho hd hcd hmg hobj hints hlen hg
  have kx := hY w _ Y
  obtain ⟨fd, hb, hF⟩ := F w mg fa _ kx G.T.g hmg
  exact law_quietP kx G.T.g G.T.b G.T.builtins G.T.nolimit (G.T.seer hi) hg hobj hints (Nat.le_trans hlen hn2) hr hF hb
    fun H hO hS => hsp _ H a ns hlen hO hS
theorem end_lawB {P : Program} {w : World} {K : PySem.W.Frag} {mg : Str → Option Value} {x y : Str} {st : Stmt} {k : Nat} {sp : Sp} {fa : Addr} {T : Heap → Prop} (D : Def K mg x st [y]) (hfa : mg x = some (.ref fa)) (F : ∀ base : Heap, T base → CalG P w K mg base x k [y] sp)
    (hb : ∀ (kV doc pm : Value) (an : Option Addr) (cdv ct u : Value), bindArgs (PySem.W.fnOf x x (defArgs st) (defBody st) (defScope st) .none kV doc pm an cdv ct) ⟨[u], []⟩ = pure [(y, u)]) :
    ∃ fd : FuncData, (∀ (s : Shared) (u : Value), BindsTo s fd ⟨[u], []⟩ [(y, u)]) ∧ ∀ base : Heap, K.In base → base.Ns mainGlobals mg → T base → FnG P w K mg base k fa fd [y] sp := by
  obtain ⟨f, fd, F', m, _⟩ := D
  have e1 : f = fa := by rw [hfa] at m; injection m with z; injection z with z; exact z.symm
  subst e1
  obtain ⟨oc, od, kV, doc, pm, an, cdv, ct, osl, e2, lk, _⟩ := F'.ex
  refine ⟨fd, fun s u => by rw [e2]; exact .of_eq (hb kV doc pm an cdv ct u), fun base _ _ tb => ?_⟩
  obtain ⟨f2, fd2, G, m2, _, _, oc2, od2, osl2, lk2⟩ := F base tb
  have e3 : f2 = f := by rw [hfa] at m2; injection m2 with z; injection z with z; exact z.symm
  subst e3
  rw [lk] at lk2
  injection lk2 with lk2
  injection lk2 with _ _ e4 _
  injection e4 with e4
  subst e4
  rw [e2] at *
  exact G
end Tw

set_option Elab.async false
set_option linter.all false
set_option maxRecDepth 100000
set_option maxHeartbeats 8000000
namespace K25
open PySem PySem.Spec PyProof.Rows L2 Tw
/-- all defs and names, put together -/
theorem whole {P : Program} {w : World} {K : PySem.W.Frag} {mg : Str → Option Value} (nb : Nb mg) (ht : P.given.tree = none)
    (d0 : Def K mg "is_whole" sWhole ["value"])
    (d1 : Def K mg "power" sPower ["base", "many"])
    (d2 : Def K mg "trimmed" sTrimmed ["numbers"])
    (d3 : Def K mg "packed" sPacked ["row", "bits"])
    (d4 : Def K mg "unpacked" sUnpacked ["value", "bits"])
    (d5 : Def K mg "full_rest" sFRest ["row", "by"])
    (d6 : Def K mg "own_head" sOwnH ["head", "scale", "steps"])
    (d7 : Def K mg "subresultants" sSubres ["one", "other"])
    (d8 : Def K mg "whole_resultant" sWRes ["one", "other"])
    (d9 : Def K mg "sum_of_sizes" sSizes ["poly"])
    (d10 : Def K mg "bits_for" sBitsFor ["one", "other"])
    (d11 : Def K mg "packed_poly" sPackedP ["poly", "bits"])
    (d12 : Def K mg "poly_resultant" sPRes ["one", "other"])
    (d13 : Def K mg "is_row" sRow ["value"])
    (d14 : Def K mg "is_poly" sPoly ["value"])
    (d15 : Def K mg "check_some_poly" sChk ["poly"])
    (d16 : Def K mg "resultant" sRes ["poly", "other"])
    (d17 : Def K mg "_law_well" sWell ["_law_script", "_law_at"])
    (d18 : Def K mg "_law_draw" sDraw ["_law_well_here", "_law_many"])
    (d19 : Def K mg "_law_trim" sTrim ["_law_some_here"])
    (d20 : Def K mg "_law_scaled" sLScaled ["_law_row_here", "_law_by"])
    (d21 : Def K mg "_law_row_sum" sRSum ["_law_one", "_law_two"])
    (d22 : Def K mg "_law_row_times" sRTimes ["_law_one", "_law_two"])
    (d23 : Def K mg "_law_poly_times" sPTimes ["_law_one", "_law_two"])
    (d24 : Def K mg "_law_number" sNum ["_law_well_here"])
    (d25 : Def K mg "_law_row" sLRow ["_law_well_here", "_law_many"])
    (d26 : Def K mg "_law_is_row" sIsRow ["_law_thing"])
    (d27 : Def K mg "_law_whole" sVal ["_law_row_here", "_law_spot"])
    (d28 : Def K mg "_law_table" sTab ["_law_one", "_law_two", "_law_spot"])
    (d29 : Def K mg "_law_determinant" sDet ["_law_table_here"])
    (d30 : Def K mg "_law_some" sSome ["_law_well_here"])
    (d31 : Def K mg "_law_right" sRight ["_law_well_here"])
    (d32 : Def K mg "law" sLaw ["_law_script"])
    (base : Heap) (hN : base.NoSeer) : CalG P w K mg base "law" 41 ["_law_script"] (spLaw K) := by
  have c_whole := ok_whole (P := P) (w := w) (base := base) d0 nb
  have c_row := ok_row d13 nb c_whole
  have c_poly := ok_poly d14 nb c_row
  have c_power := ok_power (P := P) (w := w) (base := base) d1
  have c_tr := ok_trimmed (P := P) (w := w) (base := base) d2 nb
  have c_pack := ok_packed (P := P) (w := w) (base := base) d3 nb
  have c_unp := ok_unpacked (P := P) (w := w) (base := base) d4 nb
  have c_oh := ok_ownH (P := P) (w := w) (base := base) d6 nb hN ht
  have c_fr := ok_fRest d5 nb c_tr
  have c_sub := ok_subres d7 nb hN ht c_oh c_power c_fr
  have c_wr := ok_wres d8 nb hN ht c_sub c_tr c_power
  have c_sz := ok_sizes (P := P) (w := w) (base := base) d9 nb
  have c_bf := ok_bitsFor d10 nb c_power c_sz
  have c_pp := ok_packedP d11 nb c_pack
  have c_pr := ok_pres d12 c_bf c_pp c_wr c_unp
  have c_chk := ok_chk d15 c_poly
  have c_res := ok_res d16 c_chk c_pr
  have c_well := ok_well (P := P) (w := w) (base := base) d17 nb
  have c_draw := ok_draw (P := P) (w := w) (base := base) d18 nb
  have c_trim := ok_trim (P := P) (w := w) (base := base) d19 nb
  have c_ls := ok_lscaled d20 c_trim
  have c_rs := ok_rsum d21 nb c_trim
  have c_rt := ok_rtimes d22 nb c_trim
  have c_pt := ok_ptimes d23 nb c_trim c_rs c_rt
  have c_num := ok_num d24 c_draw
  have c_lrow := ok_lrow d25 nb c_draw c_num (c_trim.imp trim_int)
  have c_isr := ok_isrow (P := P) (w := w) (base := base) d26 nb
  have c_val := ok_val (P := P) (w := w) (base := base) d27 nb
  have c_tab := ok_tab d28 nb c_val
  have c_det := ok_det (P := P) (w := w) (base := base) d29 nb hN ht
  have c_some := ok_some d30 nb c_draw c_lrow (c_trim.imp trim_rows)
  have c_right := ok_right d31 nb d16 c_res c_draw c_lrow c_some (c_ls.imp rs_imp) c_pt c_isr c_val c_det c_tab
  exact ok_law d32 nb c_well c_right
end K25

set_option Elab.async false
set_option linter.all false
set_option maxRecDepth 100000
open PySem PySem.W PyProof.Rows
set_option maxHeartbeats 0 in
theorem PySem.Challenge.cw_twoletters_k25_whole_resultants_by_own_d_holds : PySem.Challenge.rw_twoletters_k25_whole_resultants_by_own_d.Holds := by
  w_on; o_law; k_head; (case hw => w_witness2)
  k_fill
  refine Tw.walk_quietP (l := PySem.Challenge.rw_twoletters_k25_whole_resultants_by_own_d) (n := 63) (k := 41) (x := "_law_script") (sp := K25.spLaw) rfl (by decide) rfl ⟨rfl, by decide, by decide⟩ (fun w h Y => PySem.W.kIn_of Y) (by decide +kernel) ?F
    (fun K H a ns hl _ hS => ⟨a, ns, rfl, hS, hl, fun _ => rfl⟩)
  case F =>
    intro w mg fa h KX G hmg
    refine' Tw.with_def (x := "is_whole") (st := K25.sWhole) (ps := ["value"]) KX G ?a ?l ?c ?k (fun _ _ _ _ _ _ us hl => match us, hl with | [_], _ => rfl) (fun d0 => ?_)
    (case a => k_is); (case l => k_is); (case c => k_is); (case k => k_is)
    refine' Tw.with_def (x := "power") (st := K25.sPower) (ps := ["base", "many"]) KX G ?a ?l ?c ?k (fun _ _ _ _ _ _ us hl => match us, hl with | [_, _], _ => rfl) (fun d1 => ?_)
    (case a => k_is); (case l => k_is); (case c => k_is); (case k => k_is)
    refine' Tw.with_def (x := "trimmed") (st := K25.sTrimmed) (ps := ["numbers"]) KX G ?a ?l ?c ?k (fun _ _ _ _ _ _ us hl => match us, hl with | [_], _ => rfl) (fun d2 => ?_)
    (case a => k_is); (case l => k_is); (case c => k_is); (case k => k_is)
    refine' Tw.with_def (x := "packed") (st := K25.sPacked) (ps := ["row", "bits"]) KX G ?a ?l ?c ?k (fun _ _ _ _ _ _ us hl => match us, hl with | [_, _], _ => rfl) (fun d3 => ?_)
    (case a => k_is); (case l => k_is); (case c => k_is); (case k => k_is)
    refine' Tw.with_def (x := "unpacked") (st := K25.sUnpacked) (ps := ["value", "bits"]) KX G ?a ?l ?c ?k (fun _ _ _ _ _ _ us hl => match us, hl with | [_, _], _ => rfl) (fun d4 => ?_)
    (case a => k_is); (case l => k_is); (case c => k_is); (case k => k_is)
    refine' Tw.with_def (x := "full_rest") (st := K25.sFRest) (ps := ["row", "by"]) KX G ?a ?l ?c ?k (fun _ _ _ _ _ _ us hl => match us, hl with | [_, _], _ => rfl) (fun d5 => ?_)
    (case a => k_is); (case l => k_is); (case c => k_is); (case k => k_is)
    refine' Tw.with_def (x := "own_head") (st := K25.sOwnH) (ps := ["head", "scale", "steps"]) KX G ?a ?l ?c ?k (fun _ _ _ _ _ _ us hl => match us, hl with | [_, _, _], _ => rfl) (fun d6 => ?_)
    (case a => k_is); (case l => k_is); (case c => k_is); (case k => k_is)
    refine' Tw.with_def (x := "subresultants") (st := K25.sSubres) (ps := ["one", "other"]) KX G ?a ?l ?c ?k (fun _ _ _ _ _ _ us hl => match us, hl with | [_, _], _ => rfl) (fun d7 => ?_)
    (case a => k_is); (case l => k_is); (case c => k_is); (case k => k_is)
    refine' Tw.with_def (x := "whole_resultant") (st := K25.sWRes) (ps := ["one", "other"]) KX G ?a ?l ?c ?k (fun _ _ _ _ _ _ us hl => match us, hl with | [_, _], _ => rfl) (fun d8 => ?_)
    (case a => k_is); (case l => k_is); (case c => k_is); (case k => k_is)
    refine' Tw.with_def (x := "sum_of_sizes") (st := K25.sSizes) (ps := ["poly"]) KX G ?a ?l ?c ?k (fun _ _ _ _ _ _ us hl => match us, hl with | [_], _ => rfl) (fun d9 => ?_)
    (case a => k_is); (case l => k_is); (case c => k_is); (case k => k_is)
    refine' Tw.with_def (x := "bits_for") (st := K25.sBitsFor) (ps := ["one", "other"]) KX G ?a ?l ?c ?k (fun _ _ _ _ _ _ us hl => match us, hl with | [_, _], _ => rfl) (fun d10 => ?_)
    (case a => k_is); (case l => k_is); (case c => k_is); (case k => k_is)
    refine' Tw.with_def (x := "packed_poly") (st := K25.sPackedP) (ps := ["poly", "bits"]) KX G ?a ?l ?c ?k (fun _ _ _ _ _ _ us hl => match us, hl with | [_, _], _ => rfl) (fun d11 => ?_)
    (case a => k_is); (case l => k_is); (case c => k_is); (case k => k_is)
    refine' Tw.with_def (x := "poly_resultant") (st := K25.sPRes) (ps := ["one", "other"]) KX G ?a ?l ?c ?k (fun _ _ _ _ _ _ us hl => match us, hl with | [_, _], _ => rfl) (fun d12 => ?_)
    (case a => k_is); (case l => k_is); (case c => k_is); (case k => k_is)
    refine' Tw.with_def (x := "is_row") (st := K25.sRow) (ps := ["value"]) KX G ?a ?l ?c ?k (fun _ _ _ _ _ _ us hl => match us, hl with | [_], _ => rfl) (fun d13 => ?_)
    (case a => k_is); (case l => k_is); (case c => k_is); (case k => k_is)
    refine' Tw.with_def (x := "is_poly") (st := K25.sPoly) (ps := ["value"]) KX G ?a ?l ?c ?k (fun _ _ _ _ _ _ us hl => match us, hl with | [_], _ => rfl) (fun d14 => ?_)
    (case a => k_is); (case l => k_is); (case c => k_is); (case k => k_is)
    refine' Tw.with_def (x := "check_some_poly") (st := K25.sChk) (ps := ["poly"]) KX G ?a ?l ?c ?k (fun _ _ _ _ _ _ us hl => match us, hl with | [_], _ => rfl) (fun d15 => ?_)
    (case a => k_is); (case l => k_is); (case c => k_is); (case k => k_is)
    refine' Tw.with_def (x := "resultant") (st := K25.sRes) (ps := ["poly", "other"]) KX G ?a ?l ?c ?k (fun _ _ _ _ _ _ us hl => match us, hl with | [_, _], _ => rfl) (fun d16 => ?_)
    (case a => k_is); (case l => k_is); (case c => k_is); (case k => k_is)
    refine' Tw.with_def (x := "_law_well") (st := K25.sWell) (ps := ["_law_script", "_law_at"]) KX G ?a ?l ?c ?k (fun _ _ _ _ _ _ us hl => match us, hl with | [_, _], _ => rfl) (fun d17 => ?_)
    (case a => k_is); (case l => k_is); (case c => k_is); (case k => k_is)
    refine' Tw.with_def (x := "_law_draw") (st := K25.sDraw) (ps := ["_law_well_here", "_law_many"]) KX G ?a ?l ?c ?k (fun _ _ _ _ _ _ us hl => match us, hl with | [_, _], _ => rfl) (fun d18 => ?_)
    (case a => k_is); (case l => k_is); (case c => k_is); (case k => k_is)
    refine' Tw.with_def (x := "_law_trim") (st := K25.sTrim) (ps := ["_law_some_here"]) KX G ?a ?l ?c ?k (fun _ _ _ _ _ _ us hl => match us, hl with | [_], _ => rfl) (fun d19 => ?_)
    (case a => k_is); (case l => k_is); (case c => k_is); (case k => k_is)
    refine' Tw.with_def (x := "_law_scaled") (st := K25.sLScaled) (ps := ["_law_row_here", "_law_by"]) KX G ?a ?l ?c ?k (fun _ _ _ _ _ _ us hl => match us, hl with | [_, _], _ => rfl) (fun d20 => ?_)
    (case a => k_is); (case l => k_is); (case c => k_is); (case k => k_is)
    refine' Tw.with_def (x := "_law_row_sum") (st := K25.sRSum) (ps := ["_law_one", "_law_two"]) KX G ?a ?l ?c ?k (fun _ _ _ _ _ _ us hl => match us, hl with | [_, _], _ => rfl) (fun d21 => ?_)
    (case a => k_is); (case l => k_is); (case c => k_is); (case k => k_is)
    refine' Tw.with_def (x := "_law_row_times") (st := K25.sRTimes) (ps := ["_law_one", "_law_two"]) KX G ?a ?l ?c ?k (fun _ _ _ _ _ _ us hl => match us, hl with | [_, _], _ => rfl) (fun d22 => ?_)
    (case a => k_is); (case l => k_is); (case c => k_is); (case k => k_is)
    refine' Tw.with_def (x := "_law_poly_times") (st := K25.sPTimes) (ps := ["_law_one", "_law_two"]) KX G ?a ?l ?c ?k (fun _ _ _ _ _ _ us hl => match us, hl with | [_, _], _ => rfl) (fun d23 => ?_)
    (case a => k_is); (case l => k_is); (case c => k_is); (case k => k_is)
    refine' Tw.with_def (x := "_law_number") (st := K25.sNum) (ps := ["_law_well_here"]) KX G ?a ?l ?c ?k (fun _ _ _ _ _ _ us hl => match us, hl with | [_], _ => rfl) (fun d24 => ?_)
    (case a => k_is); (case l => k_is); (case c => k_is); (case k => k_is)
    refine' Tw.with_def (x := "_law_row") (st := K25.sLRow) (ps := ["_law_well_here", "_law_many"]) KX G ?a ?l ?c ?k (fun _ _ _ _ _ _ us hl => match us, hl with | [_, _], _ => rfl) (fun d25 => ?_)
    (case a => k_is); (case l => k_is); (case c => k_is); (case k => k_is)
    refine' Tw.with_def (x := "_law_is_row") (st := K25.sIsRow) (ps := ["_law_thing"]) KX G ?a ?l ?c ?k (fun _ _ _ _ _ _ us hl => match us, hl with | [_], _ => rfl) (fun d26 => ?_)
    (case a => k_is); (case l => k_is); (case c => k_is); (case k => k_is)
    refine' Tw.with_def (x := "_law_whole") (st := K25.sVal) (ps := ["_law_row_here", "_law_spot"]) KX G ?a ?l ?c ?k (fun _ _ _ _ _ _ us hl => match us, hl with | [_, _], _ => rfl) (fun d27 => ?_)
    (case a => k_is); (case l => k_is); (case c => k_is); (case k => k_is)
    refine' Tw.with_def (x := "_law_table") (st := K25.sTab) (ps := ["_law_one", "_law_two", "_law_spot"]) KX G ?a ?l ?c ?k (fun _ _ _ _ _ _ us hl => match us, hl with | [_, _, _], _ => rfl) (fun d28 => ?_)
    (case a => k_is); (case l => k_is); (case c => k_is); (case k => k_is)
    refine' Tw.with_def (x := "_law_determinant") (st := K25.sDet) (ps := ["_law_table_here"]) KX G ?a ?l ?c ?k (fun _ _ _ _ _ _ us hl => match us, hl with | [_], _ => rfl) (fun d29 => ?_)
    (case a => k_is); (case l => k_is); (case c => k_is); (case k => k_is)
    refine' Tw.with_def (x := "_law_some") (st := K25.sSome) (ps := ["_law_well_here"]) KX G ?a ?l ?c ?k (fun _ _ _ _ _ _ us hl => match us, hl with | [_], _ => rfl) (fun d30 => ?_)
    (case a => k_is); (case l => k_is); (case c => k_is); (case k => k_is)
    refine' Tw.with_def (x := "_law_right") (st := K25.sRight) (ps := ["_law_well_here"]) KX G ?a ?l ?c ?k (fun _ _ _ _ _ _ us hl => match us, hl with | [_], _ => rfl) (fun d31 => ?_)
    (case a => k_is); (case l => k_is); (case c => k_is); (case k => k_is)
    refine' Tw.with_def (x := "law") (st := K25.sLaw) (ps := ["_law_script"]) KX G ?a ?l ?c ?k (fun _ _ _ _ _ _ us hl => match us, hl with | [_], _ => rfl) (fun d32 => ?_)
    (case a => k_is); (case l => k_is); (case c => k_is); (case k => k_is)
    refine' Tw.with_no (x := "isinstance") KX G ?z (fun z0 => ?_)
    (case z => k_is)
    refine' Tw.with_no (x := "int") KX G ?z (fun z1 => ?_)
    (case z => k_is)
    refine' Tw.with_no (x := "bool") KX G ?z (fun z2 => ?_)
    (case z => k_is)
    refine' Tw.with_no (x := "tuple") KX G ?z (fun z3 => ?_)
    (case z => k_is)
    refine' Tw.with_no (x := "all") KX G ?z (fun z4 => ?_)
    (case z => k_is)
    refine' Tw.with_no (x := "len") KX G ?z (fun z5 => ?_)
    (case z => k_is)
    refine' Tw.with_no (x := "list") KX G ?z (fun z6 => ?_)
    (case z => k_is)
    refine' Tw.with_no (x := "divmod") KX G ?z (fun z7 => ?_)
    (case z => k_is)
    refine' Tw.with_no (x := "range") KX G ?z (fun z8 => ?_)
    (case z => k_is)
    refine' Tw.with_no (x := "max") KX G ?z (fun z9 => ?_)
    (case z => k_is)
    refine' Tw.with_no (x := "min") KX G ?z (fun z10 => ?_)
    (case z => k_is)
    refine' Tw.with_no (x := "abs") KX G ?z (fun z11 => ?_)
    (case z => k_is)
    refine' Tw.with_no (x := "repr") KX G ?z (fun z12 => ?_)
    (case z => k_is)
    refine' Tw.with_no (x := "reversed") KX G ?z (fun z13 => ?_)
    (case z => k_is)
    refine' Tw.with_no (x := "sum") KX G ?z (fun z14 => ?_)
    (case z => k_is)
    refine' Tw.with_no (x := "zip") KX G ?z (fun z15 => ?_)
    (case z => k_is)
    refine' Tw.with_no (x := "any") KX G ?z (fun z16 => ?_)
    (case z => k_is)
    refine' Tw.with_no (x := "enumerate") KX G ?z (fun z17 => ?_)
    (case z => k_is)
    exact Tw.end_lawB d32 hmg (fun base hN => K25.whole ⟨z0, z1, z2, z3, z4, z5, z6, z7, z8, z9, z10, z11, z12, z13, z14, z15, z16, z17⟩ rfl d0 d1 d2 d3 d4 d5 d6 d7 d8 d9 d10 d11 d12 d13 d14 d15 d16 d17 d18 d19 d20 d21 d22 d23 d24 d25 d26 d27 d28 d29 d30 d31 d32 base hN) (fun _ _ _ _ _ _ _ => rfl)
