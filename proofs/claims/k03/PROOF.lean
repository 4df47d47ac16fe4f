import PyProof.Rows.All
import Wide.All
import OpenK.AllK
import Wide.FinOn
import HandS.ForMost
import HandS.IsInst
import HandS.TupAny
import HandS.Flow
import HandS.Evl
import HandS.TupMul
import HandS.SortKw
import HandS.WideBits
import HandS.Gcd
import HandS.Rev
import HandS.Style
import KE.DataMinMax
import KE.GoesMore
import PyProof.Draws
import PyProof.NoPylong
import HandS.WideMore
import HandS.RevRange
import HandS.List
import PySem.Challenge.RW_twoletters_k03_common_rows_and_plain_row
set_option Elab.async false
set_option linter.all false
set_option maxRecDepth 100000
set_option maxHeartbeats 4000000
/-! a def's promise where no container is being written out (for repr) -/
namespace Tw
open PySem PySem.Spec PyProof.Rows L2

/-- nothing is being written out around here -/
abbrev Qt (A : Around) : Prop := A.guards = some []

structure FnG (P : Program) (w : World) (K : PySem.W.Frag) (mg : Str → Option Value) (base : Heap) (k : Nat) (f : Addr)
    (fd : FuncData) (ps : List Str) (sp : Sp) : Prop where
  many : ∀ vs H Q E, sp vs H Q E → vs.length = ps.length
  goes : ∀ (A : Around) (out : List Env) (s : Shared) (H : Hp) (g : Args) (us : List Value) (vs : List V) (Q : VK) (E : XK),
    Qt A → Room k A → Env0 P w K mg base A out s H → BindsTo s fd g (ps.zip us) → Vals vs us → sp vs H Q E →
    codeAny (model P w) A (.call (.ref f) g) (CR CX0 out P w H s Q E) s

section
variable {P : Program} {w : World} {K : PySem.W.Frag} {mg : Str → Option Value} {base : Heap} {k j : Nat} {f : Addr}
  {fd : FuncData} {ps : List Str} {sp : Sp}
theorem FnG.of (F : FnOk P w K mg base CX0 k f fd ps sp) : FnG P w K mg base k f fd ps sp :=
  ⟨F.len, fun A out s H g us vs Q E _ hr => F.run A out s H g us vs Q E hr⟩
theorem FnG.up (F : FnG P w K mg base j f fd ps sp) (h : j ≤ k) : FnG P w K mg base k f fd ps sp :=
  ⟨F.many, fun A out s H g us vs Q E hq hr => F.goes A out s H g us vs Q E hq (hr.mono h)⟩
theorem FnG.imp {sp' : Sp} (F : FnG P w K mg base k f fd ps sp) (h : ∀ vs H Q E, sp' vs H Q E → sp vs H Q E) :
    FnG P w K mg base k f fd ps sp' :=
  ⟨fun vs H Q E q => F.many vs H Q E (h _ _ _ _ q),
   fun A out s H g us vs Q E hq hr he hb hv hs => F.goes A out s H g us vs Q E hq hr he hb hv (h _ _ _ _ hs)⟩

/-- a def by its body, the place where it runs being quiet -/
theorem Fun.okG {x qual : Str} {st : Stmt} {N : List Str} (F : Fun K x qual st f fd) (S : FnScope N ps (defScope st))
    (many : ∀ vs H Q E, sp vs H Q E → vs.length = ps.length)
    (hbody : ∀ (cdv : Value) (A : Around) (out : List Env) (s : Shared) (H : Hp) (vs : List V) (Q : VK) (E : XK),
      Qt (A.deeper (envOfC qual (defScope st) s.heap.objs.size f cdv)) →
      Room k (A.deeper (envOfC qual (defScope st) s.heap.objs.size f cdv)) → sp vs H Q E →
      ∃ t, PSs (cxOf CX0 P w K mg base N qual (defScope st) f cdv A out s H E).nox (defBody st) t ∧
        t { nx := fun _ H' => Q .non H', rt := Q } (start N vs) H) : FnG P w K mg base (k + 1) f fd ps sp := by
  obtain ⟨oc, od, kV, doc, pm, an, cdv, ct, osl, rfl, lk, hcd⟩ := F.ex
  refine ⟨many, fun A out s H g us vs Q E hq hr e0 hb r hsp => ?_⟩
  have hlen : vs.length = ps.length := many _ _ _ _ hsp
  have inS : ∀ b o, base.get? b = some o → s.heap.get? b = some o := fun b o e => (e0.bs b o e).1
  have kx : K.In s.heap := e0.mod.kin.keeps inS
  have nolim : s.heap.NoLimit := e0.mod.nolimit.keeps inS
  have kinds : ∀ y ∈ ps.zip us, (defScope st).names.lookup y.1 = some .local ∨
      ((defScope st).names.lookup y.1 = some .cell ∧
        ((cellsFrom (s.heap.objs.size + 1) (defScope st).names []).lookup y.1).isSome = true) := by
    rintro ⟨n, v⟩ hy
    cases S.par n (List.of_mem_zip hy).1 with
    | inl q => exact Or.inl q
    | inr q => exact Or.inr ⟨q, PySem.W.cellsFrom_some _ _ _ (Or.inl q)⟩
  have rec1 := PySem.W.codeRec_of kx hcd
  refine codeAny_call_function hr.depth (kx _ _ lk) rfl S.co S.gen rfl rec1 (hb _ _ _ _ ?_)
  refine wpAny_newFunctionEnv_cells S.kind kinds fun env he s1 x => ?_
  subst he
  refine ⟨nolim.keeps x.toInCall.keep, codeAny_func ?_⟩
  have hq' : Qt (A.deeper (envOfC qual (defScope st) s.heap.objs.size f cdv)) := hq
  obtain ⟨t, ht, hw⟩ := hbody cdv A out s H vs Q E hq' (hr.deeper _) hsp
  have I := inv_start (CX := CX0) (cd := cdv) (E := E) (f := f) (qual := qual) S hr.hd e0 hlen r x
  refine wpAny_mono (ht.nox.run [] s1 (start N vs) H _ I hw) (fun fl s' hs => ?_) fun e s' hs => hs
  cases fl with
  | ret u => obtain ⟨v, σ', H', J, rv, q⟩ := hs; exact ⟨v, H', J.os, J.bare, J.base, J.hok, rv, q⟩
  | next => obtain ⟨σ', H', J, q⟩ := hs; exact ⟨V.non, H', J.os, J.bare, J.base, J.hok, rfl, q⟩
  | brk => obtain ⟨_, _, _, q⟩ := hs; exact q.elim
  | cont => obtain ⟨_, _, _, q⟩ := hs; exact q.elim
end

section
variable {X : Cx} {k : Nat} {f : Addr} {fd : FuncData} {ps : List Str} {sp : Sp} {x : Str} {p pos : Pos} {e : Expr}
  {es : List Expr} {t : TA}
/-- f(e, ..), f a def that wants quiet -/
theorem pe_callG (F : FnG X.prog X.w X.K X.mg X.base k f fd ps sp) (hq : Qt X.A) (hr : Room k X.A) (hg : Gl X x)
    (hm : X.mg x = some (.ref f)) (hk : PySem.W.keepIn X.K (.ref f) = true) (hb : Binds X.K fd ps [])
    (ha : PA X (e :: es) t) (hdb : (x == ("__debug__" : Str)) = false := by decide)
    (he : starEach (e :: es) X.env = (false, eval e X.env) :: starEach es X.env := by rfl)
    (hpl : (backTo pos (starEach es X.env)).any (·.1) = false := by rfl) :
    PE X (.Call (.Name x p) (e :: es) [] pos) (tCall sp [] E0 t) := by
  refine ⟨fun pins s σ H Q I h => wpAny_Call_Name_kw (ld_glob I hg hm ?_ hdb)⟩
  refine PySem.W.callWith_K (h₀ := X.base) I.ok.mod.kin hk ?_ he hpl
  refine thn (ha.run pos pins s σ H _ I h) ?_
  rintro us s1 ⟨vs, H1, I1, r, q⟩
  refine ⟨I1.kIn, wpAny_call ?_⟩
  have q' : sp vs H1 Q E0 := by simpa using q
  have hl : us.length = ps.length := by rw [← Vals.length r]; exact F.many _ _ _ _ q'
  have b := hb s1 us I1.kIn (by simpa using hl)
  rw [List.append_nil] at b
  refine codeAny_mono (F.goes X.A X.stack s1 H1 ⟨us, []⟩ us vs Q E0 hq hr I1.env0 b r q') fun r s' hh => ?_
  cases r with
  | error z => exact False.elim hh
  | ok fl =>
    cases fl with
    | ret u => exact I1.after hh
    | next => exact False.elim hh
    | brk => exact False.elim hh
    | cont => exact False.elim hh
end
end Tw

set_option Elab.async false
set_option linter.all false
set_option maxRecDepth 100000
set_option maxHeartbeats 4000000
/-! data: what a value is, over the heap; the well at a -/
namespace Tw
open PySem PySem.Spec PyProof.Rows L2

/-- all that was known is known, but for what stands at a -/
def Kp (a : Addr) (H H' : Hp) : Prop := ∀ b o, b ≠ a → H b = some o → H' b = some o
/-- the well: a list of three ints -/
def We (a : Addr) (H : Hp) : Prop := ∃ x y z : Int, H a = some (.lst [.int x, .int y, .int z])
theorem Kp.refl (a : Addr) (H : Hp) : Kp a H H := fun _ _ _ h => h
theorem Kp.trans {a : Addr} {H H1 H2 : Hp} (x : Kp a H H1) (y : Kp a H1 H2) : Kp a H H2 := fun b o n h => y b o n (x b o n h)
theorem Kp.of {a : Addr} {H H' : Hp} (x : Same H H') : Kp a H H' := fun b o _ h => x b o h
theorem We.to {a : Addr} {H H' : Hp} (x : Same H H') (w : We a H) : We a H' := by
  obtain ⟨i, j, k, h⟩ := w
  exact ⟨i, j, k, x _ _ h⟩
theorem We.ne {a p : Addr} {H : Hp} (w : We a H) (h : H p = none) : p ≠ a := by
  obtain ⟨i, j, k, e⟩ := w
  exact fun z => by rw [z, e] at h; cases h
theorem We.some {a : Addr} {H : Hp} (w : We a H) : H a ≠ none := by
  obtain ⟨i, j, k, e⟩ := w
  rw [e]
  exact fun z => by cases z
theorem same_new {H : Hp} {p : Addr} {o : HO} (h : H p = none) : Same H (upd H p o) := fun b u e => by
  rw [upd_ne (ne_of_none e h)]; exact e
theorem kp_new {a : Addr} {H : Hp} {p : Addr} {o : HO} (h : H p = none) : Kp a H (upd H p o) := Kp.of (same_new h)
theorem we_new {a : Addr} {H : Hp} {p : Addr} {o : HO} (w : We a H) (h : H p = none) : We a (upd H p o) := w.to (same_new h)
theorem sz {n : Nat} (h : n ≤ 100000) : n ≤ sizeLine := Nat.le_trans h (by decide)

mutual
/-- the value is the datum; nothing of it is the well -/
inductive Da (a : Addr) (H : Hp) : V → PyData → Prop
  | non : Da a H .non .none
  | bl (b : Bool) : Da a H (.bl b) (.bool b)
  | int (i : Int) : Da a H (.int i) (.int i)
  | str (x : Str) : Da a H (.str x) (.str x)
  | lst {p : Addr} {xs : List V} {ds : List PyData} : p ≠ a → H p = some (.lst xs) → DaAll a H xs ds → Da a H (.ref p) (.list ds)
  | tup {p : Addr} {xs : List V} {ds : List PyData} : p ≠ a → H p = some (.tup xs) → DaAll a H xs ds → Da a H (.ref p) (.tuple ds)
  | dct {p : Addr} : p ≠ a → H p = some (.dK []) → Da a H (.ref p) (.dict [])
inductive DaAll (a : Addr) (H : Hp) : List V → List PyData → Prop
  | nil : DaAll a H [] []
  | cons {v : V} {vs : List V} {d : PyData} {ds : List PyData} : Da a H v d → DaAll a H vs ds → DaAll a H (v :: vs) (d :: ds)
end
section
variable {a : Addr} {H H' : Hp}
mutual
theorem Da.kp (k : Kp a H H') : ∀ {v : V} {d : PyData}, Da a H v d → Da a H' v d
  | _, _, .non => .non
  | _, _, .bl b => .bl b
  | _, _, .int i => .int i
  | _, _, .str x => .str x
  | _, _, .lst n h t => .lst n (k _ _ n h) (DaAll.kp k t)
  | _, _, .tup n h t => .tup n (k _ _ n h) (DaAll.kp k t)
  | _, _, .dct n h => .dct n (k _ _ n h)
theorem DaAll.kp (k : Kp a H H') : ∀ {vs : List V} {ds : List PyData}, DaAll a H vs ds → DaAll a H' vs ds
  | _, _, .nil => .nil
  | _, _, .cons h t => .cons (Da.kp k h) (DaAll.kp k t)
end
theorem Da.same (s : Same H H') {v : V} {d : PyData} (h : Da a H v d) : Da a H' v d := h.kp (Kp.of s)
theorem DaAll.same (s : Same H H') {v : List V} {d : List PyData} (h : DaAll a H v d) : DaAll a H' v d := h.kp (Kp.of s)
theorem DaAll.len : ∀ {vs : List V} {ds : List PyData}, DaAll a H vs ds → vs.length = ds.length
  | _, _, .nil => rfl
  | _, _, .cons _ t => congrArg Nat.succ t.len
theorem DaAll.get : ∀ {vs : List V} {ds : List PyData} {i : Nat} {v : V}, DaAll a H vs ds → vs[i]? = some v → ∃ d, ds[i]? = some d ∧ Da a H v d
  | _, _, _, _, .nil, h => by simp at h
  | _, _, 0, _, .cons h _, e => by simp at e; subst e; exact ⟨_, rfl, h⟩
  | _, _, i + 1, _, .cons _ t, e => by
    obtain ⟨d, h1, h2⟩ := t.get (i := i) (by simpa using e)
    exact ⟨d, by simpa using h1, h2⟩
theorem DaAll.append : ∀ {vs ws : List V} {ds es : List PyData}, DaAll a H vs ds → DaAll a H ws es → DaAll a H (vs ++ ws) (ds ++ es)
  | _, _, _, _, .nil, t => t
  | _, _, _, _, .cons h t, u => .cons h (t.append u)
theorem DaAll.drop : ∀ {vs : List V} {ds : List PyData} (n : Nat), DaAll a H vs ds → DaAll a H (vs.drop n) (ds.drop n)
  | _, _, 0, h => h
  | _, _, _ + 1, .nil => .nil
  | _, _, n + 1, .cons _ t => t.drop n
theorem DaAll.take : ∀ {vs : List V} {ds : List PyData} (n : Nat), DaAll a H vs ds → DaAll a H (vs.take n) (ds.take n)
  | _, _, 0, _ => .nil
  | _, _, _ + 1, .nil => .nil
  | _, _, n + 1, .cons h t => .cons h (t.take n)
theorem DaAll.rev : ∀ {vs : List V} {ds : List PyData}, DaAll a H vs ds → DaAll a H vs.reverse ds.reverse
  | _, _, .nil => .nil
  | _, _, .cons h t => by
    rw [List.reverse_cons, List.reverse_cons]
    exact t.rev.append (.cons h .nil)
/-- a slice of the values, of the data -/
def cutD (ds : List PyData) (lo hi : Option Int) : List PyData := (ds.drop (HT.sIx ds.length 0 lo)).take (HT.sIx ds.length ds.length hi - HT.sIx ds.length 0 lo)
theorem DaAll.cut {vs : List V} {ds : List PyData} (lo hi : Option Int) (h : DaAll a H vs ds) : DaAll a H (cutV vs lo hi) (cutD ds lo hi) := by
  unfold cutV cutD
  rw [h.len]
  exact (h.drop _).take _

mutual
theorem Da.dp {K : PySem.W.Frag} : ∀ {v : V} {d : PyData}, Da a H v d → d.canLay0 = true → Dp K H v d
  | _, _, .non, _ => .non
  | _, _, .bl b, _ => .bl b
  | _, _, .int i, _ => .int i
  | _, _, .str x, _ => .str x
  | _, _, .lst n h t, c => .lst (SqL.of h) (DaAll.dp t (by simpa [PyData.canLay0] using c))
  | _, _, .tup n h t, c => .tup (SqT.of h) (DaAll.dp t (by simpa [PyData.canLay0] using c))
  | _, _, .dct n h, c => by simp [PyData.canLay0] at c
theorem DaAll.dp {K : PySem.W.Frag} : ∀ {vs : List V} {ds : List PyData}, DaAll a H vs ds → PyData.canLayAll0 ds = true → DpAll K H vs ds
  | _, _, .nil, _ => .nil
  | _, _, .cons (d := d) (ds := ds) h t, c => by
    have c' : d.canLay0 = true ∧ PyData.canLayAll0 ds = true := by simpa [PyData.canLayAll0] using c
    exact .cons (Da.dp h c'.1) (DaAll.dp t c'.2)
end
end

/-! ### written data -/
mutual
def litOf : Expr → Option PyData
  | .Constant c _ _ => match c with
    | .none => some .none
    | .bool b => some (.bool b)
    | .int i => some (.int i)
    | .str x => some (.str x)
    | _ => none
  | .UnaryOp .USub (.Constant (.int i) _ _) _ => some (.int (-i))
  | .BinOp (.Constant (.int i) _ _) .Pow (.Constant (.int j) _ _) _ => if 0 ≤ j ∧ j ≤ 1000 ∧ i.natAbs < 1000 then some (.int (i ^ j.toNat)) else none
  | .Tuple es _ _ => match litsOf es with
    | some ds => if ds.length ≤ 1000 then some (.tuple ds) else none
    | none => none
  | .List es _ => match litsOf es with
    | some ds => if ds.length ≤ 1000 then some (.list ds) else none
    | none => none
  | .Dict [] [] _ => some (.dict [])
  | _ => none
def litsOf : List Expr → Option (List PyData)
  | [] => some []
  | e :: es => match litOf e, litsOf es with
    | some d, some ds => some (d :: ds)
    | _, _ => none
end
theorem _root_.L2.PE.weak {X : Cx} {e : Expr} {t t' : TE} (h : PE X e t) (k : ∀ σ H Q, t' σ H Q → t σ H Q) : PE X e t' := ⟨fun p s σ H Q I q => h.run p s σ H Q I (k σ H Q q)⟩
theorem _root_.L2.PA.weak {X : Cx} {e : List Expr} {t t' : TA} (h : PA X e t) (k : ∀ σ H Q, t' σ H Q → t σ H Q) : PA X e t' := ⟨fun o p s σ H Q I q => h.run o p s σ H Q I (k σ H Q q)⟩
/-- a new datum; a is any known place -/
def tLit (d : PyData) : TE := fun _ H Q => ∃ a, H a ≠ none ∧ ∀ v H', Same H H' → Da a H' v d → Q v H'
def tLits (ds : List PyData) : TA := fun _ H Q => ∃ a, H a ≠ none ∧ ∀ vs H', Same H H' → DaAll a H' vs ds → Q vs H'
theorem same_some {H H' : Hp} {a : Addr} (s : Same H H') (h : H a ≠ none) : H' a ≠ none := by
  cases e : H a with
  | none => exact absurd e h
  | some o => rw [s a o e]; exact fun z => by cases z
theorem new_ne {H : Hp} {a p : Addr} (h : H a ≠ none) (n : H p = none) : p ≠ a := fun z => h (by rw [← z]; exact n)
theorem star_lit {e : Expr} {es : List Expr} {env : Env} {d : PyData} (h : litOf e = some d) : starEach (e :: es) env = (false, eval e env) :: starEach es env := by
  cases e <;> first | rfl | (simp [litOf] at h)
section
variable {X : Cx}
mutual
theorem pe_lit : ∀ (e : Expr) {d : PyData}, litOf e = some d → PE X e (tLit d)
  | .Constant .none _ _, _, h => by
    have e := Option.some.inj h; subst e
    exact pe_non.weak fun σ H Q ⟨a, _, q⟩ => q _ _ (Same.refl H) .non
  | .Constant (.bool b) _ _, _, h => by
    have e := Option.some.inj h; subst e
    exact pe_bl.weak fun σ H Q ⟨a, _, q⟩ => q _ _ (Same.refl H) (.bl b)
  | .Constant (.int i) _ _, _, h => by
    have e := Option.some.inj h; subst e
    exact pe_int.weak fun σ H Q ⟨a, _, q⟩ => q _ _ (Same.refl H) (.int i)
  | .Constant (.str x) _ _, _, h => by
    have e := Option.some.inj h; subst e
    exact pe_str.weak fun σ H Q ⟨a, _, q⟩ => q _ _ (Same.refl H) (.str x)
  | .UnaryOp .USub (.Constant (.int i) _ _) _, _, h => by
    have e := Option.some.inj h; subst e
    exact (pe_un un_neg pe_int).weak fun σ H Q ⟨a, _, q⟩ => ⟨i, rfl, q _ _ (Same.refl H) (.int (-i))⟩
  | .BinOp (.Constant (.int i) _ _) .Pow (.Constant (.int j) _ _) _, d, h => by
    simp only [litOf] at h
    split at h
    · rename_i c
      have e := Option.some.inj h; subst e
      refine (pe_op op_pow pe_int pe_int).weak fun σ H Q ⟨a, _, q⟩ => ⟨i, j, rfl, rfl, ⟨c.1, by have := c.2.1; omega, by have := c.2.2; omega⟩, q _ _ (Same.refl H) (.int _)⟩
    · cases h
  | .Tuple es _ _, d, h => by
    simp only [litOf] at h
    split at h
    · rename_i ds hd
      split at h
      · rename_i c
        have e := Option.some.inj h; subst e
        refine (pe_tup (pa_lits es hd)).weak fun σ H Q ⟨a, n, q⟩ => ⟨a, n, fun vs H1 s1 d1 => ⟨sz (by rw [d1.len]; omega), fun p hp => ?_⟩⟩
        have s2 := same_new (o := .tup vs) hp
        exact q _ _ (s1.trans s2) (.tup (new_ne (same_some s1 n) hp) upd_same (d1.same s2))
      · cases h
    · cases h
  | .List es _, d, h => by
    simp only [litOf] at h
    split at h
    · rename_i ds hd
      split at h
      · rename_i c
        have e := Option.some.inj h; subst e
        refine (pe_lst (pa_lits es hd)).weak fun σ H Q ⟨a, n, q⟩ => ⟨a, n, fun vs H1 s1 d1 => ⟨sz (by rw [d1.len]; omega), fun p hp => ?_⟩⟩
        have s2 := same_new (o := .lst vs) hp
        exact q _ _ (s1.trans s2) (.lst (new_ne (same_some s1 n) hp) upd_same (d1.same s2))
      · cases h
    · cases h
  | .Dict [] [] _, d, h => by
    have e := Option.some.inj h; subst e
    refine pe_dnewK.weak fun σ H Q ⟨a, n, q⟩ => fun p hp => ?_
    exact q _ _ (same_new hp) (.dct (new_ne n hp) upd_same)
theorem pa_lits : ∀ (es : List Expr) {ds : List PyData}, litsOf es = some ds → PA X es (tLits ds)
  | [], _, h => by
    have e := Option.some.inj h; subst e
    exact pa_nil.weak fun σ H Q ⟨a, _, q⟩ => q _ _ (Same.refl H) .nil
  | e :: es, ds, h => by
    simp only [litsOf] at h
    split at h
    · rename_i d ds' hd hds
      have z := Option.some.inj h; subst z
      refine (pa_cons (pe_lit e hd) (pa_lits es hds) (star_lit hd)).weak fun σ H Q ⟨a, n, q⟩ => ⟨a, n, fun v H1 s1 d1 => ⟨a, same_some s1 n, fun vs H2 s2 d2 => ?_⟩⟩
      exact q _ _ (s1.trans s2) (.cons (d1.same s2) d2)
    · cases h
end
end
end Tw

set_option Elab.async false
set_option linter.all false
set_option maxRecDepth 100000
set_option maxHeartbeats 4000000
/-! rules: texts of data, a tuple beside the empty one, a tuple turned round, kinds of data -/
namespace Tw
open PySem PySem.Spec PyProof.Rows L2
section
variable {X : Cx}

/-- repr of a list, a tuple -/
def rShow (K : PySem.W.Frag) : List V → Hp → VK → Prop := fun xs H Q =>
  ∃ p d, xs = [.ref p] ∧ Dp K H (.ref p) d ∧ SeqAt.shaped d = true ∧ d.showable = true ∧ d.shown.length ≤ sizeLine ∧ Q (.str d.shown) H
theorem noDict_of {d : PyData} (h : SeqAt.shaped d = true) : d.hasDict = false := by
  have c := SeqAt.canLay_of_shaped h
  exact PyData.hasDict_of_canLay d c
theorem call_show (hq : Qt X.A) (hu : X.A.units + 70 < cLine) : CallR X (.builtin "repr") (rShow X.K) := by
  intro pins s σ H xs us Q I r h
  obtain ⟨p, d, rfl, hd, hs, hw, hz, q⟩ := h
  obtain ⟨u, rfl, rx⟩ := vals1 r
  obtain ⟨as, rd⟩ := Dp.reads I d _ u hd rx
  cases rx
  have dp := SeqAt.depth_of_shaped hs
  refine repr_of_reads' rd hw (fun z => ?_) hq (by omega) (fun _ _ e => e) (fun h' t k keep => ?_) hz
  · rw [noDict_of hs] at z; cases z
  · exact ⟨.str d.shown, H, I.kept keep, ⟨_, rfl⟩, q⟩

/-- a tuple beside an empty one -/
def rT0 (ne : Bool) (K : PySem.W.Frag) : R2 := fun x y H Q =>
  ∃ a b xs ys, x = .ref a ∧ y = .ref b ∧ SqT K H a xs ∧ SqT K H b ys ∧ ys = [] ∧ Q (.bl (if ne then !xs.isEmpty else xs.isEmpty)) H
theorem t0_val {xs : List V} {its its2 : List Value} (r1 : Vals xs its) (r2 : Vals [] its2) :
    ((List.range (min its.toArray.size its2.toArray.size)).all (fun _ => true) && its.toArray.size == its2.toArray.size) = xs.isEmpty := by
  cases r2
  cases r1 with
  | nil => rfl
  | cons _ _ => simp
theorem op_eqT0 (hu : X.A.units + 64 < cLine) : OpR X (compareOp .Eq) (rT0 false X.K) := by
  intro pins s σ H x y v u Q I rx ry h
  obtain ⟨a, b, xs, ys, rfl, rfl, ha, hb, rfl, q⟩ := h
  cases rx
  cases ry
  obtain ⟨its, r1, p1, _⟩ := I.tuple ha
  obtain ⟨its2, r2, p2, _⟩ := I.tuple hb
  refine SeqAt.RcAt.tuples (e := fun _ => true) p1 p2 (by omega) (fun j h1 h2 => ?_) _ _ _ _ ⟨.bl xs.isEmpty, H, I, ?_, q⟩
  · cases r2
    exact absurd h2 (by simp)
  · show Value.bool _ = Value.bool _
    rw [t0_val r1 r2]
theorem op_neT0 (hu : X.A.units + 64 < cLine) : OpR X (compareOp .NotEq) (rT0 true X.K) := by
  intro pins s σ H x y v u Q I rx ry h
  obtain ⟨a, b, xs, ys, rfl, rfl, ha, hb, rfl, q⟩ := h
  cases rx
  cases ry
  obtain ⟨its, r1, p1, _⟩ := I.tuple ha
  obtain ⟨its2, r2, p2, _⟩ := I.tuple hb
  refine SeqAt.RcNeAt.tuples (e := fun _ => true) p1 p2 (by omega) (fun j h1 h2 => ?_) _ _ _ _ ⟨.bl (!xs.isEmpty), H, I, ?_, q⟩
  · cases r2
    exact absurd h2 (by simp)
  · show Value.bool _ = Value.bool _
    rw [t0_val r1 r2]

/-! ### t[::-1] -/
theorem applied_rev {prog : Program} {w : World} {A : Around} {E : Value → Shared → Prop} {s : Shared} {sl : Addr} {vl vu vs : Value} {n : Nat} {Q : Int × Int × Nat → Shared → Prop}
    (hs : s.heap.IsSliceOf sl vl vu vs) (pl : IsPart vl none) (pu : IsPart vu none) (pt : IsPart vs (some (-1))) (h : Q ((n : Int) - 1, -1, n) s) :
    wpAny (model prog w) A (Builtin.Slice.sliceApplied (.ref sl) (pure (n : Int))) Q E s := by
  obtain ⟨ob, e1, e2, e3⟩ := id hs
  unfold Builtin.Slice.sliceApplied Builtin.Slice.sliceFields
  refine wpAny_bind (wpAny_bind (wpAny_field e1 e3 (x := vl) rfl ?_))
  refine wpAny_bind (wpAny_field e1 e3 (x := vu) rfl ?_)
  refine wpAny_bind (wpAny_field e1 e3 (x := vs) rfl (wpAny_pure ?_))
  refine wpAny_bind (HT.slicePart_ pt ?_)
  show wpAny _ _ (if ((-1 : Int) == 0) = true then _ else _) _ _ s
  rw [if_neg (by decide)]
  refine wpAny_bind (HT.slicePart_ pl ?_)
  refine wpAny_bind (HT.slicePart_ pu (wpAny_bind (wpAny_pure (wpAny_pure ?_))))
  have ep : Builtin.Slice.slicePlaces ((n : Int) - 1) (-1) (-1) = n := by
    unfold Builtin.Slice.slicePlaces
    have c1 : ¬ ((-1 : Int) > 0) := by decide
    simp only [c1, if_false]
    by_cases c : (n : Int) - 1 > -1
    · simp only [c, if_true]
      have : ((n : Int) - 1 - -1 - 1) / (- -1) = (n : Int) - 1 := by
        rw [show (- -1 : Int) = 1 by decide, Int.ediv_one]; omega
      omega
    · simp only [c, if_false]
      omega
  show Q (_, (-1 : Int), Builtin.Slice.slicePlaces ((n : Int) - 1) (-1) (-1)) s
  rw [ep]
  exact h
theorem fm_congr {α β : Type} {f g : α → Option β} : ∀ (l : List α), (∀ k ∈ l, f k = g k) → l.filterMap f = l.filterMap g
  | [], _ => rfl
  | k :: l, h => by
    rw [List.filterMap_cons, List.filterMap_cons, h k (by simp), fm_congr l fun j hj => h j (by simp [hj])]
theorem pick_rev (xs : Array Value) : ((List.range xs.size).filterMap fun (k : Nat) => xs[(((xs.size : Int) - 1) + (k : Int) * (-1)).toNat]?).toArray = xs.toList.reverse.toArray := by
  congr 1
  have e : (List.range xs.size).filterMap (fun (k : Nat) => xs[(((xs.size : Int) - 1) + (k : Int) * (-1)).toNat]?) = ((List.range xs.size).map fun k => xs.size - 1 - k).filterMap (xs[·]?) := by
    rw [List.filterMap_map]
    refine fm_congr _ fun k hk => ?_
    have hlt := List.mem_range.mp hk
    have e : (((xs.size : Int) - 1) + (k : Int) * (-1)).toNat = xs.size - 1 - k := by omega
    show xs[(((xs.size : Int) - 1) + (k : Int) * (-1)).toNat]? = xs[xs.size - 1 - k]?
    rw [e]
  rw [e, PySem.W.krv_range, List.filterMap_reverse, PySem.W.krv_all]
theorem getItem_rev {prog : Program} {w : World} {A : Around} {E : Value → Shared → Prop} {s : Shared} {t sl : Addr} {items : Array Value} {vl vu vs : Value} {Q : Value → Shared → Prop}
    (ht : IsTup s.heap t items) (hs : s.heap.IsSliceOf sl vl vu vs) (pl : IsPart vl none) (pu : IsPart vu none) (pt : IsPart vs (some (-1))) (hz : items.size ≤ sizeLine)
    (h : Q (.ref s.heap.objs.size) { s with heap := s.heap.push { cls := .type "tuple", data := .seq items.toList.reverse.toArray } }) :
    wpAny (model prog w) A (getItem (.ref t) (.ref sl)) Q E s := by
  have ty : s.TypeIs (.ref sl) "slice" := by obtain ⟨ob, e1, e2, e3⟩ := id hs; exact ⟨ob, e1, e2⟩
  have ok : sizeOk (.seq items.toList.reverse.toArray) := by
    show items.toList.reverse.toArray.size ≤ sizeLine
    simpa using hz
  unfold getItem
  (try with_reducible refine wpAny_holding ?_); (first | refine wpAny_bind (wpAny_pure ?_) | skip)
  refine wpAny_bind (wpAny_sequenceKey ht.typeIs (by decide) ?_)
  have sg := PyProof.Rows.slot_tuple_getitem
  refine wpAny_bind (wpAny_callSpecial?_slot (name := Str.ofString "__getitem__") ht.typeIs sg ?_)
  refine wpAny_call_entry sg ht.typeIs entry_tuple_getitem ?_ (args_tuple_getitem _ _)
  refine (show wpAny _ _ (Builtin.Tuple.tupleItemsOf (.ref t) >>= _) _ _ s from ?_)
  refine wpAny_bind (tupleItemsOf_ ht (wpAny_bind (wpAny_typeOf ty ?_)))
  rw [if_pos (by decide)]
  refine wpAny_bind (applied_rev hs pl pu pt ?_)
  have no : ¬ (((items.size : Int) - 1 == 0 && (-1 : Int) == 1 && items.size == items.size) = true) := by simp
  show wpAny _ _ (if ((items.size : Int) - 1 == 0 && (-1 : Int) == 1 && items.size == items.size) = true then _ else _) _ _ s
  rw [if_neg no, pick_rev]
  first
    | exact wpAny_bind (wpAny_bind (m := Builtin.Tuple.tupleExact _) (wpAny_newObj_type (wpAny_pure ⟨_, rfl, wpAny_pure h⟩) ok))
    | exact wpAny_bind (m := Builtin.Tuple.tupleExact _) (wpAny_newObj_type (wpAny_pure ⟨_, rfl, wpAny_pure h⟩) ok)
    | exact wpAny_bind (m := Builtin.Tuple.tupleExact _) (wpAny_newObj_type (wpAny_bind (wpAny_pure (wpAny_pure ⟨_, rfl, wpAny_pure h⟩))) ok)
    | exact wpAny_bind (wpAny_bind (m := Builtin.Tuple.tupleExact _) (wpAny_newObj_type (wpAny_pure (wpAny_pure ⟨_, rfl, wpAny_pure h⟩)) ok))
def tRevT (K : PySem.W.Frag) (te : TE) : TE := fun σ H Q => te σ H fun x H1 => ∃ a xs, x = .ref a ∧ SqT K H1 a xs ∧ ∀ p, H1 p = none → Q (.ref p) (upd H1 p (.tup xs.reverse))
theorem pe_revT {e : Expr} {te : TE} {k : Nat} {p1 p2 p3 pos : Pos} (he : PE X e te) :
    PE X (.Subscript e (.Slice none none (some (.UnaryOp .USub (.Constant (.int 1) k p1) p2)) p3) pos) (tRevT X.K te) := by
  refine ⟨fun pins s σ H Q I h => Subscript_ (thn (he.run pins s σ H _ I h) ?_)⟩
  rintro v s1 ⟨x, H1, I1, r1, a, xs, ex, hx, q⟩
  subst ex
  cases r1
  have step : PO X (some (.UnaryOp .USub (.Constant (.int 1) k p1) p2)) (tPart (tUn (rU fun i => .int (-i)) (tC (.int 1)))) := po_some (pe_un un_neg pe_int)
  refine wpAny_Slice (thn (po_none.run pins s1 σ H1 (fun o G => o = none ∧ G = H1) I1 ⟨rfl, rfl⟩) ?_)
  rintro vl s2 ⟨l, G2, I2, pl, rfl, rfl⟩
  refine thn (po_none.run pins s2 σ G2 (fun o G => o = none ∧ G = G2) I2 ⟨rfl, rfl⟩) ?_
  rintro vu s3 ⟨l3, G3, I3, pu, rfl, rfl⟩
  refine thn (step.run pins s3 σ G3 (fun o G => o = some (-1) ∧ G = G3) I3 ⟨1, rfl, -1, rfl, rfl, rfl⟩) ?_
  rintro vs s4 ⟨l4, G4, I4, pt, rfl, rfl⟩
  have I5 := I4.kept (h' := s4.heap.push { cls := .type "slice", data := .fields #[vl, vu, vs] }) (t' := s4.toks) fun b ob z => Heap.get?_push_of_some _ z
  obtain ⟨its, r, ht, hz⟩ := I5.tuple hx
  have hl := r.length
  refine tail_any (ops := [.ref a, .ref s4.heap.objs.size]) ht.typeIs PyProof.Rows.slot_tuple_getitem.lookup ?_ (by with_unfolding_all rfl)
  refine getItem_rev ht (Heap.IsSliceOf.new _ vl vu vs) pl pu pt (by rw [List.size_toArray]; omega) ?_
  have J := I5.laid (t' := s4.toks) (o := .tup xs.reverse) (fun b ob z => Heap.get?_push_of_some _ z) (Nat.le_refl _)
    ⟨by rw [List.length_reverse]; exact hz, its.reverse, Vals.reverse r, IsTup.new _ _⟩
  exact ⟨.ref _, _, J, rfl, q _ (I5.hok.fresh (Nat.le_refl _))⟩
end

/-! ### kinds -/
def kindOf : PyData → String
  | .none => "NoneType"
  | .bool _ => "bool"
  | .int _ => "int"
  | .str _ => "str"
  | .list _ => "list"
  | .tuple _ => "tuple"
  | .dict _ => "dict"
theorem Da.ty {a : Addr} {H : Hp} {K : PySem.W.Frag} : ∀ {v : V} {d : PyData}, Da a H v d → TyX K H v (.type (kindOf d))
  | _, _, .non => .base .non
  | _, _, .bl b => .base (.bl b)
  | _, _, .int i => .base (.int i)
  | _, _, .str x => .base (.str x)
  | _, _, .lst _ h _ => .base (.lst h)
  | _, _, .tup _ h _ => .base (.tup h)
  | _, _, .dct _ h => .base (.dK h)
end Tw

set_option Elab.async false
set_option linter.all false
set_option maxRecDepth 100000
set_option maxHeartbeats 4000000
/-! the end of a law whose def wants quiet -/
namespace Tw
open PySem PySem.Spec PyProof.Rows L2

/-- a promise wide enough that says nothing of exceptions, over a heap in which the script alone may be known -/
theorem law_quiet {P : Program} {w : World} {K : PySem.W.Frag} {mg mb : Str → Option Value} {k : Nat} {fa a : Addr} {fd : FuncData}
    {x : Str} {sp : Sp} {s₁ : Shared} {vs : List Value} {ns : List Int} (KX : K.In s₁.heap) (hns : s₁.heap.Ns mainGlobals mg)
    (hb : s₁.heap.Ns builtinsNs mb) (hbb : ∀ x : Str, x ≠ "__name__" → mb x = bootBuiltins x) (hlim : s₁.heap.NoLimit)
    (hg : s₁.gens = #[]) (ha : s₁.heap.get? a = some { cls := .type "list", data := .seq vs.toArray }) (hi : IntsAre vs ns)
    (hl : ns.length ≤ sizeLine) (hr : Room k callerA)
    (F : ∀ base : Heap, K.In base → base.Ns mainGlobals mg → FnG P w K mg base k fa fd [x] sp)
    (hbind : ∀ (s : Shared) (u : Value), BindsTo s fd ⟨[u], []⟩ [(x, u)])
    (hsp : ∀ H : Hp, Only H → SqL K H a (ns.map V.int) → sp [.ref a] H (fun v _ => v = .bl true) E0) :
    codeAny (model P w) callerA (.call (.ref fa) ⟨[.ref a], []⟩)
      (fun r s' => r = .ok (.ret (.bool true)) ∧ OldK s₁.heap s'.heap ∧ s'.os = s₁.os ∧ AllBare s'.gens) s₁ := by
  have hv := vals_ints hi
  have hn := hi.length
  have main : ∀ H : Hp, Only H → SqL K H a (ns.map V.int) → HOk P w H s₁.heap → (∀ b u, H b = some u → b = a ∧ K.lookup a = none) →
      codeAny (model P w) callerA (.call (.ref fa) ⟨[.ref a], []⟩)
        (fun r s' => r = .ok (.ret (.bool true)) ∧ OldK s₁.heap s'.heap ∧ s'.os = s₁.os ∧ AllBare s'.gens) s₁ := by
    intro H hO hS hok hA
    have dictFree : ∀ {b : Addr} {o : Obj} {es : Array DictEntry} {ep : Nat},
        s₁.heap.get? b = some o → o.data = .dict es ep → H b = none := by
      intro b o es ep e d
      cases q : H b with
      | none => rfl
      | some u =>
        obtain ⟨e1, _⟩ := hA b u q
        rw [e1, ha] at e
        injection e with e
        rw [← e] at d
        exact absurd d (by intro z; cases z)
    have nsB : ∀ {b : Addr} {m : Str → Option Value}, s₁.heap.Ns b m → (hidT s₁.heap H).Ns b m := by
      rintro b m ⟨o, es, ep, e, d, r⟩
      exact ⟨o, es, ep, hidT_get e (dictFree e d), d, r⟩
    have kB : K.In (hidT s₁.heap H) := by
      intro b o e
      refine hidT_get (KX b o e) ?_
      cases q : H b with
      | none => rfl
      | some u =>
        obtain ⟨e1, e2⟩ := hA b u q
        rw [e1, e2] at e
        cases e
    have hM : Mod K mg (hidT s₁.heap H) := by
      obtain ⟨mc, l1, l2⟩ := hlim
      exact ⟨kB, nsB hns, ⟨mb, nsB hb, hbb⟩, ⟨mc, nsB l1, l2⟩⟩
    have noB : ∀ b : Addr, b ∈ frs ([] : List Env) → False := fun b z => by simp [frs] at z
    have e0 : Env0 P w K mg (hidT s₁.heap H) callerA [] s₁ H :=
      ⟨rfl, hM, fun b o e => of_hidT e, Nat.le_of_eq (hidT_size _ _), trivial, fun b z => (noB b z).elim, hok, .of_eq hg⟩
    have go := (F _ kB (nsB hns)).goes callerA [] s₁ H ⟨[.ref a], []⟩ [.ref a] [.ref a] (fun v _ => v = .bl true) E0 rfl hr e0
      (hbind s₁ (.ref a)) (.cons rfl .nil) (hsp H hO hS)
    refine codeAny_mono go fun r s' h => ?_
    cases r with
    | error e => exact False.elim h
    | ok fl =>
      cases fl with
      | next => exact False.elim h
      | brk => exact False.elim h
      | cont => exact False.elim h
      | ret u =>
        obtain ⟨v, H', os, bare, un, hok', rv, q⟩ := h
        subst q
        cases (show u = Value.bool true from rv)
        refine ⟨rfl, OldK.of_keep fun b o e => ?_, os, bare⟩
        cases q : H b with
        | none => exact un.keep b o e q (fun z => noB b z) (by simp)
        | some u =>
          cases hO b with
          | inl z => rw [q] at z; cases z
          | inr z =>
            obtain ⟨ob, xs, z⟩ := z
            have f1 := (hok b _ z).1
            have f2 := (hok' b _ (un.frzs b ob _ z)).1
            rw [e] at f1
            rw [f2, ← f1]
  cases hk : K.lookup a with
  | some o =>
    have e := KX a o hk
    rw [ha] at e
    injection e with e
    subst e
    refine main (fun _ => none) (fun _ => Or.inl rfl) (Or.inr ⟨_, vs.toArray, _, hk, rfl, rfl, rfl, ?_, by simpa using hv⟩) ?_ ?_
    · rw [List.size_toArray, hn]; exact hl
    · intro b u z; exact absurd z (by intro y; cases y)
    · intro b u z; exact absurd z (by intro y; cases y)
  | none =>
    let Ha : Hp := fun b => if b = a then some (.frz { cls := .type "list", data := .seq vs.toArray } (.lst (ns.map V.int))) else none
    have ya : ∀ b, b = a → Ha b = some (.frz { cls := .type "list", data := .seq vs.toArray } (.lst (ns.map V.int))) := fun b h => if_pos h
    have na : ∀ b, b ≠ a → Ha b = none := fun b h => if_neg h
    refine main Ha (fun b => ?_) (Or.inl (Or.inr ⟨_, ya a rfl⟩)) (fun b u z => ?_) (fun b u z => ?_)
    · by_cases h : b = a
      · exact Or.inr ⟨_, _, ya b h⟩
      · exact Or.inl (na b h)
    · by_cases h : b = a
      · rw [ya b h] at z
        injection z with z
        subst z h
        exact ⟨ha, by rw [List.length_map]; exact hl, vs, _, hv, ha⟩
      · rw [na b h] at z; cases z
    · by_cases h : b = a
      · exact ⟨h, hk⟩
      · rw [na b h] at z; cases z

theorem walk_quiet {l : PySem.W.OpenLaw} {n k : Nat} {q : Program} {loose : List Str} {XP : (Str → Option Value) → Heap → Prop}
    {YP : World → Heap → Prop} {d : DefRec} {K : Params → PySem.W.Frag} {sp : PySem.W.Frag → Sp} {x : Str} (hn : l.most = some n)
    (hn2 : n ≤ sizeLine) (hdf : d.params.defaults = []) (hr : Room k callerA)
    (hY : ∀ (w : World) (h : Heap), YP w h → (K w.params).In h)
    (F : ∀ (w : World) (mg : Str → Option Value) (fa : Addr) (h : Heap), (K w.params).In h → h.Ns mainGlobals mg →
      mg d.name = some (.ref fa) → ∃ fd : FuncData, (∀ (s : Shared) (u : Value), BindsTo s fd ⟨[u], []⟩ [(x, u)]) ∧
        ∀ base : Heap, (K w.params).In base → base.Ns mainGlobals mg → FnG l.prog w (K w.params) mg base k fa fd [x] (sp (K w.params)))
    (hsp : ∀ (K : PySem.W.Frag) (H : Hp) (a : Addr) (ns : List Int), ns.length ≤ n → Only H → SqL K H a (ns.map V.int) →
      sp K [.ref a] H (fun v _ => v = .bl true) E0) :
    PySem.W.WalkO q loose XP YP l.row.toRowW d [] (fun f vs => PySem.call f vs) := by
  refine Att.attach_call hn hdf ?_
  intro w s₀ s₁ mg mb fa o pm cd doc a vs ns G Y ho hd hcd hmg hobj hints hlen hg
  have kx := hY w _ Y
  obtain ⟨fd, hb, hF⟩ := F w mg fa _ kx G.T.g hmg
  exact law_quiet kx G.T.g G.T.b G.T.builtins G.T.nolimit hg hobj hints (Nat.le_trans hlen hn2) hr hF hb
    fun H hO hS => hsp _ H a ns hlen hO hS
end Tw

set_option Elab.async false
set_option linter.all false
set_option maxRecDepth 100000
set_option maxHeartbeats 4000000
/-! defs of the text, and calls of them by name -/
namespace Tw
open PySem PySem.Spec PyProof.Rows L2

/-- the def st stands at the name x -/
def Def (K : PySem.W.Frag) (mg : Str → Option Value) (x : Str) (st : Stmt) (ps : List Str) : Prop :=
  ∃ f fd, Fun K x x st f fd ∧ mg x = some (.ref f) ∧ Binds K fd ps []
/-- f is a def, fd -/
def FdAt (K : PySem.W.Frag) (f : Addr) (fd : FuncData) : Prop := ∃ oc od osl, K.lookup f = some ⟨oc, od, .func fd, osl⟩
theorem fdAt {K : PySem.W.Frag} {x q : Str} {st : Stmt} {f : Addr} {fd : FuncData} (F : Fun K x q st f fd) : FdAt K f fd := by
  obtain ⟨oc, od, _, _, _, _, _, _, osl, _, lk, _⟩ := F.ex
  exact ⟨oc, od, osl, lk⟩
/-- what stands at the name x keeps the promise -/
def Cal (P : Program) (w : World) (K : PySem.W.Frag) (mg : Str → Option Value) (base : Heap) (x : Str) (k : Nat) (ps : List Str) (sp : Sp) : Prop :=
  ∃ f fd, FnOk P w K mg base CX0 k f fd ps sp ∧ mg x = some (.ref f) ∧ PySem.W.keepIn K (.ref f) = true ∧ Binds K fd ps [] ∧ FdAt K f fd
def CalG (P : Program) (w : World) (K : PySem.W.Frag) (mg : Str → Option Value) (base : Heap) (x : Str) (k : Nat) (ps : List Str) (sp : Sp) : Prop :=
  ∃ f fd, FnG P w K mg base k f fd ps sp ∧ mg x = some (.ref f) ∧ PySem.W.keepIn K (.ref f) = true ∧ Binds K fd ps [] ∧ FdAt K f fd
section
variable {P : Program} {w : World} {K : PySem.W.Frag} {mg : Str → Option Value} {base : Heap} {x : Str} {st : Stmt} {ps N : List Str} {k : Nat} {sp : Sp}
theorem Def.ok (D : Def K mg x st ps) (S : FnScope N ps (defScope st)) (many : ∀ vs H Q E, sp vs H Q E → vs.length = ps.length)
    (hbody : ∀ (f : Addr) (cdv : Value) (A : Around) (out : List Env) (s : Shared) (H : Hp) (vs : List V) (Q : VK) (E : XK),
      Room k (A.deeper (envOfC x (defScope st) s.heap.objs.size f cdv)) → sp vs H Q E →
      ∃ t, PSs (cxOf CX0 P w K mg base N x (defScope st) f cdv A out s H E).nox (defBody st) t ∧
        t { nx := fun _ H' => Q .non H', rt := Q } (start N vs) H) : Cal P w K mg base x (k + 1) ps sp := by
  obtain ⟨f, fd, F, m, b⟩ := D
  exact ⟨f, fd, F.ok S many (fun cdv A out s H vs Q E hr hs => hbody f cdv A out s H vs Q E hr hs), m, F.kp, b, fdAt F⟩
theorem Def.okG (D : Def K mg x st ps) (S : FnScope N ps (defScope st)) (many : ∀ vs H Q E, sp vs H Q E → vs.length = ps.length)
    (hbody : ∀ (f : Addr) (cdv : Value) (A : Around) (out : List Env) (s : Shared) (H : Hp) (vs : List V) (Q : VK) (E : XK),
      Qt (A.deeper (envOfC x (defScope st) s.heap.objs.size f cdv)) →
      Room k (A.deeper (envOfC x (defScope st) s.heap.objs.size f cdv)) → sp vs H Q E →
      ∃ t, PSs (cxOf CX0 P w K mg base N x (defScope st) f cdv A out s H E).nox (defBody st) t ∧
        t { nx := fun _ H' => Q .non H', rt := Q } (start N vs) H) : CalG P w K mg base x (k + 1) ps sp := by
  obtain ⟨f, fd, F, m, b⟩ := D
  exact ⟨f, fd, Fun.okG F S many (fun cdv A out s H vs Q E hq hr hs => hbody f cdv A out s H vs Q E hq hr hs), m, F.kp, b, fdAt F⟩
theorem Cal.imp {sp' : Sp} (C : Cal P w K mg base x k ps sp) (h : ∀ vs H Q E, sp' vs H Q E → sp vs H Q E) : Cal P w K mg base x k ps sp' := by
  obtain ⟨f, fd, F, r⟩ := C
  exact ⟨f, fd, F.imp h, r⟩
theorem Cal.up {j : Nat} (C : Cal P w K mg base x j ps sp) (h : j ≤ k) : Cal P w K mg base x k ps sp := by
  obtain ⟨f, fd, F, r⟩ := C
  exact ⟨f, fd, F.mono h, r⟩
theorem def_mk {h : Heap} {f : Addr} {oc kV dc pm cd ct : Value} {od an : Option Addr} {sl : Array (Option Value)} (X : K.In h) (G : h.Ns mainGlobals mg)
    (a : PySem.W.nsIn K mainGlobals x = some (some (.ref f)))
    (l : K.lookup f = some ⟨oc, od, .func (PySem.W.fnOf x x (defArgs st) (defBody st) (defScope st) .none kV dc pm an cd ct), sl⟩)
    (c : PySem.W.codeIn K cd x = true) (kp : PySem.W.keepIn K (.ref f) = true)
    (hb : ∀ (kV doc pm : Value) (an : Option Addr) (cdv ct : Value) (us : List Value), us.length = ps.length →
      bindArgs (PySem.W.fnOf x x (defArgs st) (defBody st) (defScope st) .none kV doc pm an cdv ct) ⟨us, []⟩ = pure (ps.zip us)) : Def K mg x st ps := by
  have F := fun_mk (st := st) l c kp
  exact ⟨f, _, F, PySem.W.mg_of X G a, F.binds hb⟩
end
section
variable {X : Cx} {k j : Nat} {ps : List Str} {sp : Sp} {x : Str} {p pos : Pos} {e : Expr} {es : List Expr} {t : TA}
/-- f(e, ..) -/
theorem pe_cal (C : Cal X.prog X.w X.K X.mg X.base x j ps sp) (hr : Room k X.A) (hj : j ≤ k) (hg : Gl X x) (ha : PA X (e :: es) t) (hdb : (x == ("__debug__" : Str)) = false := by decide)
    (he : starEach (e :: es) X.env = (false, eval e X.env) :: starEach es X.env := by rfl) (hpl : (backTo pos (starEach es X.env)).any (·.1) = false := by rfl) :
    PE X (.Call (.Name x p) (e :: es) [] pos) (tCall sp [] E0 t) := by
  obtain ⟨f, fd, F, m, kp, b, _⟩ := C
  exact pe_call F (hr.mono hj) hg m kp b .nil pass0 ha hdb he hpl
theorem pe_calG (C : CalG X.prog X.w X.K X.mg X.base x j ps sp) (hq : Qt X.A) (hr : Room k X.A) (hj : j ≤ k) (hg : Gl X x) (ha : PA X (e :: es) t) (hdb : (x == ("__debug__" : Str)) = false := by decide)
    (he : starEach (e :: es) X.env = (false, eval e X.env) :: starEach es X.env := by rfl) (hpl : (backTo pos (starEach es X.env)).any (·.1) = false := by rfl) :
    PE X (.Call (.Name x p) (e :: es) [] pos) (tCall sp [] E0 t) := by
  obtain ⟨f, fd, F, m, kp, b, _⟩ := C
  exact pe_callG F hq (hr.mono hj) hg m kp b ha hdb he hpl

/-- f(k = e, ..), nothing by position: ks the names as they are written, g puts the values in the parameters' order -/
theorem pe_calK {st : Stmt} {ks : List Str} {kws : List Keyword} (g : List Value → List Value) (gV : List V → List V) (C : Cal X.prog X.w X.K X.mg X.base x j ps sp) (D : Def X.K X.mg x st ps) (hr : Room k X.A) (hj : j ≤ k) (hg : Gl X x)
    (hb : ∀ (kV doc pm : Value) (an : Option Addr) (cdv ct : Value) (us : List Value), us.length = ks.length →
      bindArgs (PySem.W.fnOf x x (defArgs st) (defBody st) (defScope st) .none kV doc pm an cdv ct) ⟨[], ks.zip us⟩ = pure (ps.zip (g us)))
    (hrel : ∀ {zs : List V} {us : List Value}, Vals zs us → us.length = ks.length → Vals (gV zs) (g us)) (ha : PK X kws t)
    (hn : ∀ zs H Q, t zs H Q → t zs H fun vs H' => vs.length = ks.length ∧ Q vs H')
    (hall : (backToKw pos (keywordEach kws X.env)).all (·.1.isSome) = true := by rfl) (hks : (backToKw pos (keywordEach kws X.env)).filterMap (·.1) = ks := by rfl)
    (hdb : (x == ("__debug__" : Str)) = false := by decide)
    (hpl : ((backTo pos (starEach [] X.env)).any (·.1) || (backToKw pos (keywordEach kws X.env)).any (·.1.isNone)) = false := by rfl) :
    PE X (.Call (.Name x p) [] kws pos) (fun σ H Q => t σ H fun zs H1 => sp (gV zs) H1 Q E0) := by
  obtain ⟨f, fd, F, m, kp, b, oc, od, osl, lk⟩ := C
  obtain ⟨f', fd', F', m', _⟩ := D
  have e1 : f' = f := by rw [m] at m'; injection m' with z; injection z with z; exact z.symm
  subst e1
  obtain ⟨oc', od', kV, doc, pm, an, cdv, ct, osl', e2, lk', _⟩ := F'.ex
  rw [lk] at lk'
  injection lk' with lk'
  injection lk' with _ _ e3 _
  injection e3 with e3
  subst e3
  refine ⟨fun pins s σ H Q I h => wpAny_Call_Name_kw (ld_glob I hg m ?_ hdb)⟩
  refine PySem.W.callWith_KW0 (h₀ := X.base) I.ok.mod.kin kp hall ?_ hpl
  refine thn (ha.run pos pins s σ H _ I (hn σ H _ h)) ?_
  rintro ws s2 ⟨zs, H2, I2, rz, hl, q2⟩
  rw [hks]
  refine ⟨I2.kIn, wpAny_call ?_⟩
  have hw : ws.length = ks.length := by rw [← Vals.length rz]; exact hl
  have bt : BindsTo s2 fd ⟨[], ks.zip ws⟩ (ps.zip (g ws)) := by
    rw [e2]
    exact .of_eq (hb kV doc pm an cdv ct ws hw)
  refine codeAny_mono (F.run X.A X.stack s2 H2 ⟨[], ks.zip ws⟩ (g ws) (gV zs) Q E0 (hr.mono hj) I2.env0 bt (hrel rz hw) q2) fun r s' hh => ?_
  cases r with
  | error z => exact False.elim hh
  | ok fl =>
    cases fl with
    | ret u => exact I2.after hh
    | next => exact False.elim hh
    | brk => exact False.elim hh
    | cont => exact False.elim hh
end

section
variable {P : Program} {w : World} {K : PySem.W.Frag} {mg : Str → Option Value} {st : Stmt} {x y : Str} {k : Nat} {sp : Sp} {fa : Addr}
theorem end_law (D : Def K mg x st [y]) (hfa : mg x = some (.ref fa)) (F : ∀ base : Heap, CalG P w K mg base x k [y] sp)
    (hb : ∀ (kV doc pm : Value) (an : Option Addr) (cdv ct u : Value), bindArgs (PySem.W.fnOf x x (defArgs st) (defBody st) (defScope st) .none kV doc pm an cdv ct) ⟨[u], []⟩ = pure [(y, u)]) :
    ∃ fd : FuncData, (∀ (s : Shared) (u : Value), BindsTo s fd ⟨[u], []⟩ [(y, u)]) ∧ ∀ base : Heap, K.In base → base.Ns mainGlobals mg → FnG P w K mg base k fa fd [y] sp := by
  obtain ⟨f, fd, F', m, _⟩ := D
  have e1 : f = fa := by rw [hfa] at m; injection m with z; injection z with z; exact z.symm
  subst e1
  obtain ⟨oc, od, kV, doc, pm, an, cdv, ct, osl, e2, lk, _⟩ := F'.ex
  refine ⟨fd, fun s u => by rw [e2]; exact .of_eq (hb kV doc pm an cdv ct u), fun base _ _ => ?_⟩
  obtain ⟨f2, fd2, G, m2, _, _, oc2, od2, osl2, lk2⟩ := F base
  have e3 : f2 = f := by rw [hfa] at m2; injection m2 with z; injection z with z; exact z.symm
  subst e3
  rw [lk] at lk2
  injection lk2 with lk2
  injection lk2 with _ _ e4 _
  injection e4 with e4
  rw [e4]
  exact G
end

theorem with_def {R : Prop} {K : PySem.W.Frag} {mg : Str → Option Value} {x : Str} {st : Stmt} {ps : List Str} {h : Heap} {f : Addr} {oc kV dc pm cd ct : Value} {od an : Option Addr} {sl : Array (Option Value)} (X : K.In h) (G : h.Ns mainGlobals mg)
    (a : PySem.W.nsIn K mainGlobals x = some (some (.ref f)))
    (l : K.lookup f = some ⟨oc, od, .func (PySem.W.fnOf x x (defArgs st) (defBody st) (defScope st) .none kV dc pm an cd ct), sl⟩)
    (c : PySem.W.codeIn K cd x = true) (kp : PySem.W.keepIn K (.ref f) = true)
    (hb : ∀ (kV doc pm : Value) (an : Option Addr) (cdv ct : Value) (us : List Value), us.length = ps.length →
      bindArgs (PySem.W.fnOf x x (defArgs st) (defBody st) (defScope st) .none kV doc pm an cdv ct) ⟨us, []⟩ = pure (ps.zip us))
    (go : Def K mg x st ps → R) : R := go (def_mk X G a l c kp hb)
theorem with_no {R : Prop} {K : PySem.W.Frag} {mg : Str → Option Value} {x : Str} {h : Heap} (X : K.In h) (G : h.Ns mainGlobals mg) (z : PySem.W.nsIn K mainGlobals x = some none) (go : mg x = none → R) : R := go (PySem.W.mg_none_of X G z)
end Tw

set_option Elab.async false
set_option linter.all false
set_option maxRecDepth 100000
set_option maxHeartbeats 4000000
/-! comprehensions over data, small facts -/
namespace Tw
open PySem PySem.Spec PyProof.Rows L2
theorem same_upd {H H' : Hp} {D : Addr} {o : HO} (s : Same H H') (n : H D = none) : Same H (upd H' D o) := fun b u e => by
  rw [upd_ne (ne_of_none e n)]; exact s b u e
theorem kp_upd {a : Addr} {H H' : Hp} {D : Addr} {o : HO} (s : Kp a H H') (n : H D = none) : Kp a H (upd H' D o) := fun b u ne e => by
  rw [upd_ne (ne_of_none e n)]; exact s b u ne e
theorem lt_line {n : Nat} (h : n < 100000) : n < sizeLine := Nat.lt_of_lt_of_le h (by decide)
theorem take_map {α β : Type} (f : α → β) {ds : List α} {i : Nat} {d : α} (h : ds[i]? = some d) : (ds.take i).map f ++ [f d] = (ds.take (i + 1)).map f := by
  rw [List.take_add_one, h, List.map_append]; rfl
section
variable {K : PySem.W.Frag} {te : TE} {i j : Nat} {elt : TE} {vs : List Nat} {σ : L2.St} {H : Hp} {Q : VK} {a p : Addr} {xs : List V} {ds : List PyData}
/-- [f(d) for d in t], t a tuple of data -/
theorem lc_mapT (f : PyData → V) (hv : σ[i]? = some (some (.ref p))) (ht : H p = some (.tup xs)) (hd : DaAll a H xs ds) (hn : xs.length < 100000)
    (hw : ∀ x, wipe ((wipe σ vs).set j (some x)) vs = wipe σ vs)
    (he : ∀ x d H1, d ∈ ds → Same H H1 → Da a H1 x d → ∀ R : VK, (∀ H2, Same H1 H2 → R (f d) H2) → elt ((wipe σ vs).set j (some x)) H1 R)
    (q : ∀ D H', Same H H' → H D = none → H' D = some (.lst (ds.map f)) → Q (.ref D) H') : tLc (iTup K (tVar i)) (gName j) tYes elt vs σ H Q := by
  refine ⟨.ref p, hv, p, rfl, ⟨xs, SqT.of ht⟩, fun D hD => ?_⟩
  refine lc_tup (xs := xs) (fun m H' => Same H H' ∧ H' D = some (.lst ((ds.take m).map f))) ⟨same_new hD, upd_same⟩ (fun m H' _ h => SqT.of (h.1 _ _ ht)) (fun m x H1 hx h => ?_) (fun H' h => ?_)
  · obtain ⟨h1, h2⟩ := h
    obtain ⟨d, e1, e2⟩ := hd.get hx
    have hm : m < xs.length := (List.getElem?_eq_some_iff.mp hx).1
    refine ⟨hw x, ?_⟩
    unfold tYes
    simp only [if_true]
    refine he x d H1 (List.mem_of_getElem? e1) h1 (e2.same h1) _ fun H2 s2 => ⟨(ds.take m).map f, s2 _ _ h2, ?_, same_upd (h1.trans s2) hD, ?_⟩
    · rw [List.length_map, List.length_take]; exact lt_line (by omega)
    · rw [upd_same, take_map f e1]
  · obtain ⟨h1, h2⟩ := h
    rw [hd.len, List.take_length] at h2
    exact q D H' h1 hD h2
theorem lc_mapL (f : PyData → V) (hv : σ[i]? = some (some (.ref p))) (ht : H p = some (.lst xs)) (hd : DaAll a H xs ds) (hn : xs.length < 100000)
    (hw : ∀ x, wipe ((wipe σ vs).set j (some x)) vs = wipe σ vs)
    (he : ∀ x d H1, d ∈ ds → Same H H1 → Da a H1 x d → ∀ R : VK, (∀ H2, Same H1 H2 → R (f d) H2) → elt ((wipe σ vs).set j (some x)) H1 R)
    (q : ∀ D H', Same H H' → H D = none → H' D = some (.lst (ds.map f)) → Q (.ref D) H') : tLc (iList K (tVar i)) (gName j) tYes elt vs σ H Q := by
  refine ⟨.ref p, hv, p, rfl, ⟨xs, SqL.of ht⟩, fun D hD => ?_⟩
  refine lc_list (xs := xs) (fun m H' => Same H H' ∧ H' D = some (.lst ((ds.take m).map f))) ⟨same_new hD, upd_same⟩ (fun m H' _ h => SqL.of (h.1 _ _ ht)) (fun m x H1 hx h => ?_) (fun H' h => ?_)
  · obtain ⟨h1, h2⟩ := h
    obtain ⟨d, e1, e2⟩ := hd.get hx
    have hm : m < xs.length := (List.getElem?_eq_some_iff.mp hx).1
    refine ⟨hw x, ?_⟩
    unfold tYes
    simp only [if_true]
    refine he x d H1 (List.mem_of_getElem? e1) h1 (e2.same h1) _ fun H2 s2 => ⟨(ds.take m).map f, s2 _ _ h2, ?_, same_upd (h1.trans s2) hD, ?_⟩
    · rw [List.length_map, List.length_take]; exact lt_line (by omega)
    · rw [upd_same, take_map f e1]
  · obtain ⟨h1, h2⟩ := h
    rw [hd.len, List.take_length] at h2
    exact q D H' h1 hD h2
end

/-! ### kinds, tests of kinds -/
def isIntD : PyData → Bool
  | .int _ => true
  | .bool _ => true
  | _ => false
def isBoolD : PyData → Bool
  | .bool _ => true
  | _ => false
def isTupD : PyData → Bool
  | .tuple _ => true
  | _ => false
theorem isi_int {K : PySem.W.Frag} (d : PyData) : PySem.W.kitOne K (.type (kindOf d)) (.type "int") = some (isIntD d) := by
  cases d with
  | none => exact kit_ty (show kitB "NoneType" "int" = some false by decide +kernel)
  | bool _ => exact kit_ty (show kitB "bool" "int" = some true by decide +kernel)
  | int _ => exact kit_ty (show kitB "int" "int" = some true by decide +kernel)
  | str _ => exact kit_ty (show kitB "str" "int" = some false by decide +kernel)
  | list _ => exact kit_ty (show kitB "list" "int" = some false by decide +kernel)
  | tuple _ => exact kit_ty (show kitB "tuple" "int" = some false by decide +kernel)
  | dict _ => exact kit_ty (show kitB "dict" "int" = some false by decide +kernel)
theorem isi_bool {K : PySem.W.Frag} (d : PyData) : PySem.W.kitOne K (.type (kindOf d)) (.type "bool") = some (isBoolD d) := by
  cases d with
  | none => exact kit_ty (show kitB "NoneType" "bool" = some false by decide +kernel)
  | bool _ => exact kit_ty (show kitB "bool" "bool" = some true by decide +kernel)
  | int _ => exact kit_ty (show kitB "int" "bool" = some false by decide +kernel)
  | str _ => exact kit_ty (show kitB "str" "bool" = some false by decide +kernel)
  | list _ => exact kit_ty (show kitB "list" "bool" = some false by decide +kernel)
  | tuple _ => exact kit_ty (show kitB "tuple" "bool" = some false by decide +kernel)
  | dict _ => exact kit_ty (show kitB "dict" "bool" = some false by decide +kernel)
theorem isi_tup {K : PySem.W.Frag} (d : PyData) : PySem.W.kitOne K (.type (kindOf d)) (.type "tuple") = some (isTupD d) := by
  cases d with
  | none => exact kit_ty (show kitB "NoneType" "tuple" = some false by decide +kernel)
  | bool _ => exact kit_ty (show kitB "bool" "tuple" = some false by decide +kernel)
  | int _ => exact kit_ty (show kitB "int" "tuple" = some false by decide +kernel)
  | str _ => exact kit_ty (show kitB "str" "tuple" = some false by decide +kernel)
  | list _ => exact kit_ty (show kitB "list" "tuple" = some false by decide +kernel)
  | tuple _ => exact kit_ty (show kitB "tuple" "tuple" = some true by decide +kernel)
  | dict _ => exact kit_ty (show kitB "dict" "tuple" = some false by decide +kernel)
/-- isinstance(x, T) of a datum -/
theorem isi {K : PySem.W.Frag} {a : Addr} {H : Hp} {Q : VK} {v : V} {d : PyData} {T : String} {b : Bool} (h : Da a H v d) (k : PySem.W.kitOne K (.type (kindOf d)) (.type T) = some b) (q : Q (.bl b) H) :
    rIsi K [v, .ty T] H Q := ⟨v, .ty T, .type (kindOf d), .type T, b, rfl, .ty T, h.ty, k, q⟩

/-! ### how deep, how wide -/
mutual
def dep : PyData → Nat
  | .list ds => dep1 ds + 1
  | .tuple ds => dep1 ds + 1
  | _ => 0
def dep1 : List PyData → Nat
  | [] => 0
  | d :: ds => max (dep d) (dep1 ds)
end
mutual
def wid : PyData → Nat
  | .list ds => max ds.length (wid1 ds)
  | .tuple ds => max ds.length (wid1 ds)
  | _ => 0
def wid1 : List PyData → Nat
  | [] => 0
  | d :: ds => max (wid d) (wid1 ds)
end
theorem dep1_mem {d : PyData} : ∀ {ds : List PyData}, d ∈ ds → dep d ≤ dep1 ds
  | e :: ds, h => by
    rw [dep1]
    rcases List.mem_cons.mp h with rfl | h
    · exact Nat.le_max_left _ _
    · exact Nat.le_trans (dep1_mem h) (Nat.le_max_right _ _)
theorem wid1_mem {d : PyData} : ∀ {ds : List PyData}, d ∈ ds → wid d ≤ wid1 ds
  | e :: ds, h => by
    rw [wid1]
    rcases List.mem_cons.mp h with rfl | h
    · exact Nat.le_max_left _ _
    · exact Nat.le_trans (wid1_mem h) (Nat.le_max_right _ _)
theorem dep1_le {n : Nat} : ∀ {ds : List PyData}, (∀ d ∈ ds, dep d ≤ n) → dep1 ds ≤ n
  | [], _ => Nat.zero_le _
  | d :: ds, h => by
    rw [dep1]
    exact Nat.max_le.mpr ⟨h d (by simp), dep1_le fun e he => h e (by simp [he])⟩
theorem wid1_le {n : Nat} : ∀ {ds : List PyData}, (∀ d ∈ ds, wid d ≤ n) → wid1 ds ≤ n
  | [], _ => Nat.zero_le _
  | d :: ds, h => by
    rw [wid1]
    exact Nat.max_le.mpr ⟨h d (by simp), wid1_le fun e he => h e (by simp [he])⟩
/-- at most n deep, m wide -/
def Sm (n m : Nat) (d : PyData) : Prop := dep d ≤ n ∧ wid d ≤ m
theorem Sm.up {n m n' m' : Nat} {d : PyData} (h : Sm n m d) (h1 : n ≤ n') (h2 : m ≤ m') : Sm n' m' d := ⟨Nat.le_trans h.1 h1, Nat.le_trans h.2 h2⟩
theorem sm_tup {n m : Nat} {ds : List PyData} (hl : ds.length ≤ m) (h : ∀ d ∈ ds, Sm n m d) : Sm (n + 1) m (.tuple ds) :=
  ⟨by rw [dep]; exact Nat.succ_le_succ (dep1_le fun d hd => (h d hd).1), by rw [wid]; exact Nat.max_le.mpr ⟨hl, wid1_le fun d hd => (h d hd).2⟩⟩
theorem sm_lst {n m : Nat} {ds : List PyData} (hl : ds.length ≤ m) (h : ∀ d ∈ ds, Sm n m d) : Sm (n + 1) m (.list ds) :=
  ⟨by rw [dep]; exact Nat.succ_le_succ (dep1_le fun d hd => (h d hd).1), by rw [wid]; exact Nat.max_le.mpr ⟨hl, wid1_le fun d hd => (h d hd).2⟩⟩
theorem Sm.len {n m : Nat} {ds : List PyData} (h : Sm n m (.tuple ds)) : ds.length ≤ m := by
  have := h.2
  rw [wid] at this
  exact Nat.le_trans (Nat.le_max_left _ _) this
theorem Sm.dep1 {n m : Nat} {ds : List PyData} (h : Sm n m (.tuple ds)) : 1 ≤ n := by
  have := h.1
  rw [dep] at this
  omega
theorem Sm.mem {n m : Nat} {ds : List PyData} {d : PyData} (h : Sm n m (.tuple ds)) (hd : d ∈ ds) : Sm (n - 1) m d := by
  obtain ⟨h1, h2⟩ := h
  rw [dep] at h1
  rw [wid] at h2
  have := dep1_mem hd
  exact ⟨by omega, Nat.le_trans (wid1_mem hd) (Nat.le_trans (Nat.le_max_right _ _) h2)⟩
def smB (n m : Nat) (d : PyData) : Bool := decide (dep d ≤ n) && decide (wid d ≤ m)
theorem sm_of {n m : Nat} {d : PyData} (h : smB n m d = true) : Sm n m d := by
  unfold smB at h
  simpa [Sm] using h

/-- a loop over a range, its body already read -/
theorem for_rng {lo : Int} {n : Nat} {B : (L2.St → Hp → Prop) → V → L2.St → Hp → Prop} {nx : L2.St → Hp → Prop} {σ : L2.St} {H : Hp} (Pv : Nat → L2.St → Hp → Prop) (h0 : Pv 0 σ H)
    (hs : ∀ (i : Nat) σ' H', i < n → Pv i σ' H' → B (Pv (i + 1)) (.int (lo + i)) σ' H') (hd : ∀ σ' H', Pv n σ' H' → nx σ' H') :
    ∃ W : Nat → Nat → L2.St → Hp → Prop, (∃ m, W 0 m σ H) ∧ ∀ i m σ H, W i m σ H →
      ((Itr lo n).stop i H ∧ nx σ H) ∨ ((Itr lo n).go i H ∧ ∃ N : L2.St → Hp → Prop, (∀ σ' H', N σ' H' → ∃ m', m' < m ∧ W (i + 1) m' σ' H') ∧ ∀ x H', (Itr lo n).yld i H x H' → B N x σ H') := by
  refine ⟨fun i m σ H => m = n - i ∧ i ≤ n ∧ Pv i σ H, ⟨n, by simp, Nat.zero_le _, h0⟩, ?_⟩
  rintro i m σ' H' ⟨rfl, hi, p⟩
  by_cases c : i < n
  · refine Or.inr ⟨c, Pv (i + 1), fun σ2 H2 p2 => ⟨n - (i + 1), by omega, rfl, c, p2⟩, fun x H2 y => ?_⟩
    obtain ⟨e1, e2⟩ := y
    subst e1 e2
    exact hs i σ' _ c p
  · have e : i = n := by omega
    subst e
    exact Or.inl ⟨by show i ≤ i; omega, hd σ' H' p⟩

/-- a loop over a list, its body already read -/
theorem for_lst {K : PySem.W.Frag} {a : Addr} {xs : List V} {B : (L2.St → Hp → Prop) → V → L2.St → Hp → Prop} {nx : L2.St → Hp → Prop} {σ : L2.St} {H : Hp} (Pv : Nat → L2.St → Hp → Prop) (h0 : Pv 0 σ H)
    (hl : ∀ i σ' H', i ≤ xs.length → Pv i σ' H' → SqL K H' a xs)
    (hs : ∀ (i : Nat) x σ' H', xs[i]? = some x → Pv i σ' H' → B (Pv (i + 1)) x σ' H') (hd : ∀ σ' H', Pv xs.length σ' H' → nx σ' H') :
    ∃ W : Nat → Nat → L2.St → Hp → Prop, (∃ m, W 0 m σ H) ∧ ∀ i m σ H, W i m σ H →
      ((Itl K a).stop i H ∧ nx σ H) ∨ ((Itl K a).go i H ∧ ∃ N : L2.St → Hp → Prop, (∀ σ' H', N σ' H' → ∃ m', m' < m ∧ W (i + 1) m' σ' H') ∧ ∀ x H', (Itl K a).yld i H x H' → B N x σ H') := by
  refine ⟨fun i m σ H => m = xs.length - i ∧ i ≤ xs.length ∧ Pv i σ H, ⟨xs.length, by simp, Nat.zero_le _, h0⟩, ?_⟩
  rintro i m σ' H' ⟨rfl, hi, p⟩
  have ql := hl i σ' H' hi p
  by_cases c : i < xs.length
  · refine Or.inr ⟨⟨xs, xs[i], ql, by simp [c]⟩, Pv (i + 1), fun σ2 H2 p2 => ⟨xs.length - (i + 1), by omega, rfl, c, p2⟩, fun x H2 y => ?_⟩
    obtain ⟨e1, e2⟩ := y
    subst e1
    exact hs i x σ' _ (e2 xs ql) p
  · have e : i = xs.length := by omega
    subst e
    exact Or.inl ⟨⟨xs, ql, Nat.le_refl _⟩, hd σ' H' p⟩

theorem same_kp {a : Addr} {H H1 H2 : Hp} (s : Same H H1) (n : H a = none) (k : Kp a H1 H2) : Same H H2 := fun b o e => k b o (ne_of_none e n) (s b o e)
/-- [f(i) for i in range(n)] -/
theorem lc_rng {wi : TI} {j : Nat} {elt : TE} {vs : List Nat} {σ : L2.St} {H : Hp} {Q : VK} {n : Nat} (f : Nat → V) (hi : ∀ R : It → Hp → Prop, R (Itr 0 n) H → wi σ H R) (hn : n < 100000)
    (hw : ∀ x, wipe ((wipe σ vs).set j (some x)) vs = wipe σ vs)
    (he : ∀ (i : Nat) H1, i < n → Same H H1 → ∀ R : VK, (∀ H2, Same H1 H2 → R (f i) H2) → elt ((wipe σ vs).set j (some (.int (0 + (i : Int))))) H1 R)
    (q : ∀ D H', Same H H' → H D = none → H' D = some (.lst ((List.range n).map f)) → Q (.ref D) H') : tLc wi (gName j) tYes elt vs σ H Q := by
  refine hi _ fun D hD => ?_
  refine lc_range (lo := 0) (n := n) (fun m H' => Same H H' ∧ H' D = some (.lst ((List.range m).map f))) ⟨same_new hD, upd_same⟩ (fun m H1 hm h => ?_) (fun H' h => q D H' h.1 hD h.2)
  obtain ⟨h1, h2⟩ := h
  refine ⟨hw _, ?_⟩
  unfold tYes
  simp only [if_true]
  refine he m H1 hm h1 _ fun H2 s2 => ⟨(List.range m).map f, s2 _ _ h2, ?_, same_upd (h1.trans s2) hD, ?_⟩
  · rw [List.length_map, List.length_range]; exact lt_line (by omega)
  · rw [upd_same, List.range_succ, List.map_append]; rfl
end Tw

set_option Elab.async false
set_option linter.all false
set_option maxRecDepth 100000
set_option maxHeartbeats 4000000
/-! numbers that may be True or False -/
namespace Tw
open PySem PySem.Spec PyProof.Rows L2
/-- a number, True and False among them -/
inductive Nu : V → Int → Prop
  | int (i : Int) : Nu (.int i) i
  | bl (b : Bool) : Nu (.bl b) (if b = true then 1 else 0)
theorem nu_of {a : Addr} {H : Hp} {v : V} {d : PyData} (h : Da a H v d) (t : isIntD d = true) : ∃ i, Nu v i := by
  cases h with
  | int i => exact ⟨i, .int i⟩
  | bl b => exact ⟨_, .bl b⟩
  | _ => cases t
def rNl (f : Int → Int → Int) : R2 := fun x y H Q => ∃ i j, Nu x i ∧ y = .int j ∧ Q (.int (f i j)) H
def rNr (f : Int → Int → Int) : R2 := fun x y H Q => ∃ i j, x = .int i ∧ Nu y j ∧ Q (.int (f i j)) H
section
variable {X : Cx}
theorem op_addNl : OpR X (binaryOp .Add) (rNl fun i j => i + j) := by
  intro pins s σ H x y v u Q I rx ry h
  obtain ⟨i, j, nx, rfl, q⟩ := h
  obtain ⟨t, rfl⟩ := ry
  cases nx with
  | int _ => obtain ⟨t', rfl⟩ := rx; exact add_int ⟨.int _, H, I.tok _, ⟨_, rfl⟩, q⟩
  | bl b => cases rx; exact IntBool.add_bool_int ⟨.int _, H, I.tok _, ⟨_, rfl⟩, q⟩
theorem op_subNl : OpR X (binaryOp .Sub) (rNl fun i j => i - j) := by
  intro pins s σ H x y v u Q I rx ry h
  obtain ⟨i, j, nx, rfl, q⟩ := h
  obtain ⟨t, rfl⟩ := ry
  cases nx with
  | int _ => obtain ⟨t', rfl⟩ := rx; exact sub_int ⟨.int _, H, I.tok _, ⟨_, rfl⟩, q⟩
  | bl b => cases rx; exact IntBool.sub_bool_int ⟨.int _, H, I.tok _, ⟨_, rfl⟩, q⟩
theorem op_subNr : OpR X (binaryOp .Sub) (rNr fun i j => i - j) := by
  intro pins s σ H x y v u Q I rx ry h
  obtain ⟨i, j, rfl, ny, q⟩ := h
  obtain ⟨t, rfl⟩ := rx
  cases ny with
  | int _ => obtain ⟨t', rfl⟩ := ry; exact sub_int ⟨.int _, H, I.tok _, ⟨_, rfl⟩, q⟩
  | bl b => cases ry; exact IntBool.sub_int_bool ⟨.int _, H, I.tok _, ⟨_, rfl⟩, q⟩
/-- a small number times such a one -/
theorem op_mulNr : OpR X (binaryOp .Mult) (fun x y H Q => ∃ i j, x = .int i ∧ (-(2 ^ 64) < i ∧ i < 2 ^ 64) ∧ Nu y j ∧ Q (.int (i * j)) H) := by
  intro pins s σ H x y v u Q I rx ry h
  obtain ⟨i, j, rfl, ⟨b1, b2⟩, ny, q⟩ := h
  obtain ⟨t, rfl⟩ := rx
  cases ny with
  | int _ => obtain ⟨t', rfl⟩ := ry; exact mul_int ⟨.int _, H, I.tok _, ⟨_, rfl⟩, q⟩ (.of_left (intBits_le_64 b1 b2))
  | bl b => cases ry; exact IntBool.mul_int_bool ⟨.int _, H, I.tok _, ⟨_, rfl⟩, q⟩
/-- == of such a number and an int -/
theorem op_eqNl : OpR X (compareOp .Eq) (fun x y H Q => ∃ i j, Nu x i ∧ y = .int j ∧ Q (.bl (i == j)) H) := by
  intro pins s σ H x y v u Q I rx ry h
  obtain ⟨i, j, nx, rfl, q⟩ := h
  obtain ⟨t, rfl⟩ := ry
  cases nx with
  | int _ => obtain ⟨t', rfl⟩ := rx; exact eq_int ⟨.bl _, H, I, rfl, q⟩
  | bl b => cases rx; exact EqBoolInt.eq_bool_int ⟨.bl _, H, I, rfl, q⟩
end
end Tw

set_option Elab.async false
set_option linter.all false
set_option maxRecDepth 100000
set_option maxHeartbeats 4000000
/-! slices, sums, turned tuples of data -/
namespace Tw
open PySem PySem.Spec PyProof.Rows L2
section
variable {K : PySem.W.Frag} {a : Addr} {H : Hp} {v u : V} {ds es : List PyData} {Q : VK}
theorem da_tup (h : Da a H v (.tuple ds)) : ∃ p xs, v = .ref p ∧ p ≠ a ∧ H p = some (.tup xs) ∧ DaAll a H xs ds := by
  cases h with
  | tup n e r => exact ⟨_, _, rfl, n, e, r⟩
theorem cut_whole {ds : List PyData} {lo hi : Option Int} (h : HT.sIx ds.length 0 lo = 0 ∧ HT.sIx ds.length ds.length hi = ds.length) : cutD ds lo hi = ds := by
  unfold cutD
  rw [h.1, h.2, List.drop_zero, Nat.sub_zero, List.take_length]
theorem sl_da {lo hi : Option Int} (w : H a ≠ none) (h : Da a H v (.tuple ds)) (q : ∀ v' H', Same H H' → Da a H' v' (.tuple (cutD ds lo hi)) → Q v' H') : rSlA K v lo hi H Q := by
  obtain ⟨p, xs, rfl, np, hp, hx⟩ := da_tup h
  refine ⟨p, xs, rfl, SqT.of hp, fun c => ?_, fun c t nt => ?_⟩
  · rw [hx.len] at c
    exact q _ _ (Same.refl H) (by rw [cut_whole c]; exact h)
  · have s := same_new (o := .tup (cutV xs lo hi)) nt
    exact q _ _ s (.tup (new_ne w nt) upd_same ((hx.cut lo hi).same s))
theorem cat_da (w : H a ≠ none) (h : Da a H v (.tuple ds)) (g : Da a H u (.tuple es)) (hz : ds.length + es.length ≤ 100000) (q : ∀ v' H', Same H H' → Da a H' v' (.tuple (ds ++ es)) → Q v' H') : rCatA K v u H Q := by
  obtain ⟨p, xs, rfl, np, hp, hx⟩ := da_tup h
  obtain ⟨r, ys, rfl, nr, hr, hy⟩ := da_tup g
  refine ⟨p, r, xs, ys, rfl, rfl, SqT.of hp, SqT.of hr, sz (by rw [hx.len, hy.len]; exact hz), fun c => ?_, fun c c2 => ?_, fun c c2 t nt => ?_⟩
  · subst c
    cases hx
    exact q _ _ (Same.refl H) g
  · subst c2
    cases hy
    exact q _ _ (Same.refl H) (by rw [List.append_nil]; exact h)
  · have s := same_new (o := .tup (xs ++ ys)) nt
    exact q _ _ s (.tup (new_ne w nt) upd_same ((hx.append hy).same s))
theorem rev_da (w : H a ≠ none) (h : Da a H v (.tuple ds)) (q : ∀ v' H', Same H H' → Da a H' v' (.tuple ds.reverse) → Q v' H') :
    ∃ p xs, v = .ref p ∧ SqT K H p xs ∧ ∀ t, H t = none → Q (.ref t) (upd H t (.tup xs.reverse)) := by
  obtain ⟨p, xs, rfl, np, hp, hx⟩ := da_tup h
  refine ⟨p, xs, rfl, SqT.of hp, fun t nt => ?_⟩
  have s := same_new (o := .tup xs.reverse) nt
  exact q _ _ s (.tup (new_ne w nt) upd_same (hx.rev.same s))
theorem list_da (w : H a ≠ none) (h : Da a H v (.tuple ds)) (q : ∀ v' H', Same H H' → Da a H' v' (.list ds) → Q v' H') :
    ∃ p ys, [v] = [.ref p] ∧ (SqL K H p ys ∨ SqT K H p ys) ∧ ∀ l, H l = none → Q (.ref l) (upd H l (.lst ys)) := by
  obtain ⟨p, xs, rfl, np, hp, hx⟩ := da_tup h
  refine ⟨p, xs, rfl, .inr (SqT.of hp), fun t nt => ?_⟩
  have s := same_new (o := .lst xs) nt
  exact q _ _ s (.lst (new_ne w nt) upd_same (hx.same s))
/-- a written tuple of values that are data -/
theorem tup_da {vs : List V} (w : H a ≠ none) (h : DaAll a H vs ds) (hz : ds.length ≤ 100000) (q : ∀ v' H', Same H H' → Da a H' v' (.tuple ds) → Q v' H') :
    vs.length ≤ sizeLine ∧ ∀ p, H p = none → Q (.ref p) (upd H p (.tup vs)) := by
  refine ⟨sz (by rw [h.len]; exact hz), fun t nt => ?_⟩
  have s := same_new (o := .tup vs) nt
  exact q _ _ s (.tup (new_ne w nt) upd_same (h.same s))
theorem newT {vs : List V} {p : Addr} (w : H a ≠ none) (h : DaAll a H vs ds) (n : H p = none) : Same H (upd H p (.tup vs)) ∧ Da a (upd H p (.tup vs)) (.ref p) (.tuple ds) :=
  ⟨same_new n, .tup (new_ne w n) upd_same (h.same (same_new n))⟩
theorem newL {vs : List V} {p : Addr} (w : H a ≠ none) (h : DaAll a H vs ds) (n : H p = none) : Same H (upd H p (.lst vs)) ∧ Da a (upd H p (.lst vs)) (.ref p) (.list ds) :=
  ⟨same_new n, .lst (new_ne w n) upd_same (h.same (same_new n))⟩
/-- an item of such a one -/
theorem ix_da {i : Int} (h : Da a H v (.tuple ds)) (i0 : 0 ≤ i) (i1 : i < ds.length) (q : ∀ x d, d ∈ ds → Da a H x d → Q x H) : rIxT K v (.int i) H Q := by
  obtain ⟨p, xs, rfl, np, hp, hx⟩ := da_tup h
  obtain ⟨m, rfl⟩ := Int.eq_ofNat_of_zero_le i0
  have hm : m < xs.length := by rw [hx.len]; omega
  obtain ⟨d, e1, e2⟩ := hx.get (List.getElem?_eq_getElem hm)
  exact ⟨p, xs, _, xs[m], rfl, rfl, SqT.of hp, atI_nat (List.getElem?_eq_getElem hm), q _ d (List.mem_of_getElem? e1) e2⟩
end
theorem cut_mem {ds : List PyData} {lo hi : Option Int} {d : PyData} (h : d ∈ cutD ds lo hi) : d ∈ ds := List.mem_of_mem_drop (List.mem_of_mem_take h)
theorem cut_le (ds : List PyData) (lo hi : Option Int) : (cutD ds lo hi).length ≤ ds.length := by
  unfold cutD
  rw [List.length_take, List.length_drop]
  omega
theorem cut_upto (ds : List PyData) (k : Nat) : (cutD ds none (some (k : Int))).length = min k ds.length := by
  unfold cutD
  rw [HT.sIx_nat, HT.sIx_none, List.drop_zero, Nat.sub_zero, List.length_take]
  omega
theorem cut_from (ds : List PyData) (k : Nat) : (cutD ds (some (k : Int)) none).length = ds.length - min k ds.length := by
  unfold cutD
  rw [HT.sIx_nat, HT.sIx_none, List.length_take, List.length_drop]
  omega
theorem sm_sub {n m n' m' : Nat} {ds es : List PyData} (h : Sm n m (.tuple ds)) (hl : es.length ≤ m') (h1 : n ≤ n') (h2 : m ≤ m') (he : ∀ e ∈ es, e ∈ ds ∨ Sm (n' - 1) m' e) : Sm n' m' (.tuple es) := by
  have n1 := h.dep1
  have := sm_tup (n := n' - 1) hl fun e q => by
    rcases he e q with c | c
    · exact (h.mem c).up (by omega) h2
    · exact c
  exact this.up (by omega) (Nat.le_refl _)
theorem sm_subL {n m n' m' : Nat} {ds es : List PyData} (h : Sm n m (.tuple ds)) (hl : es.length ≤ m') (h1 : n ≤ n') (h2 : m ≤ m') (he : ∀ e ∈ es, e ∈ ds ∨ Sm (n' - 1) m' e) : Sm n' m' (.list es) := by
  have n1 := h.dep1
  have := sm_lst (n := n' - 1) hl fun e q => by
    rcases he e q with c | c
    · exact (h.mem c).up (by omega) h2
    · exact c
  exact this.up (by omega) (Nat.le_refl _)
theorem sm_int (n m : Nat) (i : Int) : Sm n m (.int i) := ⟨Nat.zero_le _, Nat.zero_le _⟩
theorem sm_bl (n m : Nat) (b : Bool) : Sm n m (.bool b) := ⟨Nat.zero_le _, Nat.zero_le _⟩
end Tw

set_option Elab.async false
set_option linter.all false
set_option maxRecDepth 100000
set_option maxHeartbeats 4000000
/-! rules: max with default, few times a tuple, *= and >>=, statements that are not reached -/
namespace Tw
open PySem PySem.Spec PyProof.Rows L2
section
variable {X : Cx}
/-- a statement that is not reached -/
def tDead : TS := fun _ _ _ => False
theorem ps_dead {st : Stmt} : PS X st tDead := ⟨fun _ _ _ _ _ _ h => h.elim⟩
theorem pss_dead {st : List Stmt} : PSs X st tDead := ⟨fun _ _ _ _ _ _ h => h.elim⟩
/-- max(l, default=0) of ints that are not negative -/
def maxN (ns : List Int) : Int := ns.foldl max 0
def rMaxZ (K : PySem.W.Frag) : List V → List V → Hp → VK → Prop := fun vs zs H Q => ∃ (a : Addr) (ns : List Int), vs = [.ref a] ∧ zs = [.int 0] ∧ SqL K H a (ns.map V.int) ∧ (∀ n ∈ ns, 0 ≤ n) ∧ Q (.int (maxN ns)) H
theorem cr_maxZ (hc : X.calm = true) (hu : X.A.units + 64 < cLine) : CallRK X (.builtin "max") [Str.ofString "default"] (rMaxZ X.K) := by
  intro pins s σ H vs zs us ws Q I r rz h
  obtain ⟨a, ns, rfl, rfl, hs, hn, q⟩ := h
  obtain ⟨its, rv, hl, _⟩ := I.list hs
  rw [Vals.ref1 r]
  obtain ⟨w1, rfl, e1⟩ := vals1 rz
  obtain ⟨t, rfl⟩ : ∃ t, w1 = Value.int 0 t := e1
  have rd : ReadsAll s.heap its.toArray.toList (ns.map .int) [] := IntsAre.reads _ rv.ints
  have dz : ∀ l : List Int, PyData.depthAll (l.map .int) = 0 := fun l => by
    induction l with
    | nil => rfl
    | cons n l ih => simp only [List.map_cons, PyData.depthAll, PyData.depth, ih]; rfl
  refine PySem.W.max_list_default (xs := ns.map .int) (I.ok.hd hc) hl.isList rd ⟨fun x hx y hy => ?_, fun x hx => ?_⟩ (by rw [dz]; show X.A.units + 1 + 0 < cLine; omega) (fun e h' tk k => ?_) (fun y ys i v h' tk bs e hv rv' k => ?_)
  · obtain ⟨i, _, rfl⟩ := List.mem_map.mp hx
    obtain ⟨j, _, rfl⟩ := List.mem_map.mp hy
    simp only [PySem.W.alike]
  · obtain ⟨i, _, rfl⟩ := List.mem_map.mp hx
    exact fun e => by cases e
  · have : ns = [] := by simpa using e
    subst this
    exact ⟨.int _, H, I.kept k, ⟨_, rfl⟩, q⟩
  · cases ns with
    | nil => cases e
    | cons n l =>
      rw [List.map_cons] at e
      injection e with e1 e2
      subst e1 e2
      rw [PySem.W.maxD_ints] at rv'
      cases rv' with
      | int _ t' =>
        have n0 := hn n (by simp)
        refine ⟨.int _, H, I.kept k, ⟨_, rfl⟩, ?_⟩
        have : maxN (n :: l) = l.foldl max n := by
          unfold maxN
          rw [List.foldl_cons]
          congr 1
          omega
        rw [← this]
        exact q
/-- o *= e, one of them small -/
theorem ip_mul : PIp X .Mult (fun x y H Q => ∃ i j, x = .int i ∧ y = .int j ∧ CMul i j ∧ Q (.int (i * j)) H) := by
  intro pins s σ H x y v u Q I r1 r2 h
  obtain ⟨i, j, rfl, rfl, c, q⟩ := h
  obtain ⟨t, rfl⟩ := r1
  obtain ⟨t', rfl⟩ := r2
  exact PyProof.Rows.imul_int ⟨.int _, H, I.tok _, ⟨_, rfl⟩, q⟩ c.ok
/-- o >>= 1 -/
theorem ip_half : PIp X .RShift (fun x y H Q => ∃ n : Nat, x = .int (n : Int) ∧ y = .int 1 ∧ Q (.int ((n / 2 : Nat) : Int)) H) := by
  intro pins s σ H x y v u Q I r1 r2 h
  obtain ⟨n, rfl, rfl, q⟩ := h
  obtain ⟨t, rfl⟩ := r1
  obtain ⟨t', rfl⟩ := r2
  refine PyProof.Rows.irshift_int (by decide) ?_
  rw [show (2 : Int) ^ (1 : Int).toNat = 2 from rfl, Int.fdiv_eq_ediv_of_nonneg _ (by decide)]
  exact ⟨.int _, H, I.tok _, ⟨_, rfl⟩, q⟩

/-! k times a tuple, k from 0 on -/
theorem tuple_mul1 (l : Addr) (items : Array Value) (n : Nat) (dd : Option Addr) (sl : Array (Option Value)) (u : Tok) :
    Meets (Builtin.«tuple.__mul__» ⟨[.ref l, .int 1 u], []⟩) (fun _ R s => s.heap.get? l = some { cls := .type "tuple", dict := dd, data := .seq items n, slots := sl } ∧ R (.ok (.ret (Value.ref l))) s) :=
  .of_wp fun prog w A R s h => by
    obtain ⟨hp, g, d, tk, os⟩ := s
    obtain ⟨hl, h⟩ := h
    have f1 := AutoSeq1.idx_int
    wp_walk using wpAny_loadPart' hl
    repeat (first
      | (refine wpAny_ite_false (by decide) ?_; wp_walk using wpAny_loadPart' hl)
      | (refine wpAny_ite_true (by simp) ?_; wp_walk using wpAny_loadPart' hl))
    exact ⟨_, rfl, h⟩
theorem tuple_mul0 (l : Addr) (items : Array Value) (n : Nat) (dd : Option Addr) (sl : Array (Option Value)) (u : Tok) (c1 : (items.isEmpty || (0 : Int) == 1) = false) :
    Meets (Builtin.«tuple.__mul__» ⟨[.ref l, .int 0 u], []⟩) (fun _ R s => s.heap.get? l = some { cls := .type "tuple", dict := dd, data := .seq items n, slots := sl } ∧
      R (.ok (.ret (Value.ref s.heap.objs.size))) { s with heap := s.heap.push { cls := Value.type "tuple", data := Data.seq #[] }, toks := s.toks }) :=
  .of_wp fun prog w A R s h => by
    obtain ⟨hp, g, d, tk, os⟩ := s
    obtain ⟨hl, h⟩ := h
    have f1 := AutoSeq1.idx_int
    wp_walk using wpAny_loadPart' hl
    repeat (first
      | (refine wpAny_ite_false (decide_eq_false (by rw [c1]; exact Bool.false_ne_true)) ?_; wp_walk using wpAny_loadPart' hl)
      | (refine wpAny_ite_false (by decide) ?_; wp_walk using wpAny_loadPart' hl)
      | (refine wpAny_ite_true (by simp) ?_; wp_walk using wpAny_loadPart' hl))
    exact ⟨_, rfl, h⟩
def rMulT (K : PySem.W.Frag) : R2 := fun x y H Q => ∃ (l : Addr) (k : Nat) (xs : List V), x = .ref l ∧ y = .int (k : Int) ∧ SqT K H l xs ∧ xs ≠ [] ∧ k ≤ 1000 ∧ xs.length ≤ 1000 ∧
  ∀ t H', Same H H' → SqT K H' t (List.replicate k xs).flatten → Q (.ref t) H'
theorem op_mulT : OpR X (binaryOp .Mult) (rMulT X.K) := by
  intro pins s σ H x y v u Q I rx ry h
  obtain ⟨l, k, xs, rfl, rfl, hT, hne, h1, hz, q⟩ := h
  rcases Nat.lt_or_ge 1 k with h2 | h2
  · exact op_repT pins s σ H _ _ v u Q I rx ry ⟨l, _, xs, rfl, rfl, hT, hne, by omega, by omega, hz, fun p np => q p _ (same_new np) (SqT.of (by rw [Int.toNat_natCast]; exact upd_same))⟩
  have rx' := rx
  cases rx
  obtain ⟨t, rfl⟩ := ry
  obtain ⟨its, r, ⟨⟨cls, dd, data, sl⟩, ho, hc, n, hd⟩, hs⟩ := I.tuple hT
  simp only at hc hd
  subst hc hd
  have hle : its.length = xs.length := r.length.symm
  have hn : its ≠ [] := fun e => hne (by
    rw [e] at hle
    exact List.eq_nil_of_length_eq_zero hle.symm)
  have hi : its.toArray.isEmpty = false := by
    cases its with
    | nil => exact absurd rfl hn
    | cons a b => rfl
  have hk : k = 0 ∨ k = 1 := by omega
  rcases hk with rfl | rfl
  · refine wpAny_binaryOp_repeat_ref (T := "tuple") (U := "int") (by decide) ⟨_, ho, rfl⟩ (fun s' => typeIs_int s' _ t) noFill_tuple_mul F.fills_int_mul F.slot_int_rmul repeat_tuple F.slot_int_index.lookup
      (call_meets F.slot_int_rmul (typeIs_int s _ t) F.entry_int_rmul (F.args_int_rmul_2 _ _) (int_rmul_tuple _ t l its.toArray n dd sl)
        ⟨ho, rfl, ⟨_, ho, rfl⟩, call_meets F.slot_tuple_mul ⟨_, ho, rfl⟩ F.entry_tuple_mul (F.args_tuple_mul_2 _ _) (tuple_mul0 l its.toArray n dd sl t (by rw [hi]; rfl)) ⟨ho, ?_⟩⟩)
    refine ⟨.ref s.heap.objs.size, _, I.laid (t' := s.toks) (o := .tup []) (fun b ob q => Heap.get?_push_of_some _ q) (Nat.le_refl _) ?_, rfl, q _ _ (same_new (I.hok.fresh (Nat.le_refl _))) (SqT.of upd_same)⟩
    exact ⟨by simp, _, .nil, IsTup.new _ _⟩
  · refine wpAny_binaryOp_repeat_ref (T := "tuple") (U := "int") (by decide) ⟨_, ho, rfl⟩ (fun s' => typeIs_int s' _ t) noFill_tuple_mul F.fills_int_mul F.slot_int_rmul repeat_tuple F.slot_int_index.lookup
      (call_meets F.slot_int_rmul (typeIs_int s _ t) F.entry_int_rmul (F.args_int_rmul_2 _ _) (int_rmul_tuple _ t l its.toArray n dd sl)
        ⟨ho, rfl, ⟨_, ho, rfl⟩, call_meets F.slot_tuple_mul ⟨_, ho, rfl⟩ F.entry_tuple_mul (F.args_tuple_mul_2 _ _) (tuple_mul1 l its.toArray n dd sl t) ⟨ho, ?_⟩⟩)
    exact ⟨.ref l, H, I, rfl, q _ _ (Same.refl H) (by simpa using hT)⟩
end
end Tw

set_option Elab.async false
set_option linter.all false
set_option maxRecDepth 100000
set_option maxHeartbeats 4000000
/-! for i, x in enumerate(t), t a tuple -/
namespace Tw
open PySem PySem.Spec PyProof.Rows L2
/-- the tuple's iterator, the enumerate over it, as they are made -/
def itO (p : Addr) : Obj :=
  { cls := .type "tuple_iterator", data := .fields #[.ref p, .int 0 0] }
def enO (i : Addr) : Obj :=
  { cls := .type "enumerate", data := .fields #[.none, .bool false, .ref i, rawInt 0, .none, .none] }
theorem enum_newT (p : Addr) (its : Array Value) (k : Nat) (dd : Option Addr) (sl : Array (Option Value)) :
    Meets (Builtin.«enumerate.__new__» ⟨[.type "enumerate", .ref p], []⟩) (fun _ R s =>
      s.heap.get? p = some ⟨.type "tuple", dd, .seq its k, sl⟩ ∧
      R (.ok (.ret (.ref (s.heap.push (itO p)).objs.size))) { s with heap := (s.heap.push (itO p)).push (enO s.heap.objs.size) }) := by
  refine .of_wp fun prog w A R s h => ?_
  obtain ⟨hp, gn, dr, tk, os⟩ := s
  obtain ⟨hl, h⟩ := h
  have hsub := sub_enumerate
  have isT : (Shared.heap ⟨hp, gn, dr, tk, os⟩).IsTuple p its := ⟨_, hl, rfl, k, rfl⟩
  wp_walk using AutoSeq1.wpAny_loadPart' hl
  refine wpAny_stack_any fun _ => ?_
  refine wpAny_pure ?_
  split
  · rename_i c _ _ _ _ _
    cases (c == Value.type "enumerate") <;>
    · wp_walk using AutoSeq1.wpAny_loadPart' hl, wpAny_pyIter_tuple isT
      exact ⟨_, rfl, h⟩
  · wp_walk using AutoSeq1.wpAny_loadPart' hl, wpAny_pyIter_tuple isT
    exact ⟨_, rfl, h⟩
section
variable {prog : Program} {w : World} {A : Around} {E : Value → Shared → Prop} {s : Shared}
theorem call_enumT {p : Addr} {its : Array Value} {Q : Value → Shared → Prop} (hT : s.heap.IsTuple p its)
    (h : ∀ h', IsEnum h' (s.heap.objs.size + 1) s.heap.objs.size 0 .none → h'.IsTupleIter s.heap.objs.size p 0 →
      (∀ b o, s.heap.get? b = some o → h'.get? b = some o) → Q (.ref (s.heap.objs.size + 1)) { s with heap := h' }) :
    wpAny (model prog w) A (call (.type "enumerate") [.ref p]) Q E s := by
  obtain ⟨⟨c, dd, dt, sl⟩, hl, hc, k, hd⟩ := hT
  cases (show c = .type "tuple" from hc)
  cases (show dt = .seq its k from hd)
  have z1 : (s.heap.push (itO p)).objs.size = s.heap.objs.size + 1 := Heap.size_push ..
  have g1 : ((s.heap.push (itO p)).push (enO s.heap.objs.size)).get? (s.heap.objs.size + 1) = some (enO s.heap.objs.size) := by
    rw [← z1]
    exact Heap.get?_push_size _ rfl
  have g0 : ((s.heap.push (itO p)).push (enO s.heap.objs.size)).get? s.heap.objs.size = some (itO p) :=
    Heap.get?_push_of_some _ (Heap.get?_push_size _ rfl)
  refine callType_new F.called_enumerate (by decide) (F.typeCall_enumerate_1 _) (F.newCall_enumerate_1 _)
    (fun obj => F.args_object_init_2 obj _) F.entry_enumerate_new (enum_newT p its k dd sl) ⟨hl, ?_⟩
  show _ ∧ _
  rw [z1]
  exact ⟨⟨_, g1, rfl⟩, h _ g1 ⟨_, g0, rfl, rfl⟩ fun b o y => Heap.get?_push_of_some _ (Heap.get?_push_of_some _ y)⟩
end
/-- the tuple at a, each item in a new pair with its number -/
def IteT (K : PySem.W.Frag) (a : Addr) : It where
  go := fun i H => ∃ (xs : List V) (x : V), SqT K H a xs ∧ xs[i]? = some x
  yld := fun i H v H' => ∃ t x, v = .ref t ∧ H t = none ∧ H' = upd H t (.tup [.int (i : Nat), x]) ∧
    ∀ xs, SqT K H a xs → xs[i]? = some x
  stop := fun i H => ∃ xs : List V, SqT K H a xs ∧ xs.length = i
theorem apart {h : Heap} {a b : Addr} {o u : Obj} {m n : String} (ha : h.get? a = some o) (hb : h.get? b = some u)
    (ca : o.cls = .type m) (cb : u.cls = .type n) (d : m ≠ n) : a ≠ b := by
  rintro rfl
  rw [ha] at hb
  cases hb
  rw [ca] at cb
  cases cb
  exact d rfl
theorem turn_enumT {P : Program} {w : World} {K : PySem.W.Frag} {elts : List Expr} {kk : Nat} {tpos : Pos} (a e it : Addr) :
    Turn P w K (.Tuple elts kk tpos) (IteT K a) [e, it] e
      (fun i h => (∃ old, IsEnum h e it ((i : Nat) : Int) old) ∧ h.IsTupleIter it a i ∧ e ≠ it) where
  mem := by simp
  obj := fun i h st b hb => by
    obtain ⟨⟨old, he⟩, ⟨o, ho, hc, hd⟩, _⟩ := st
    rcases List.mem_cons.mp hb with z | z
    · subst z; exact ⟨_, he, fun v q => nomatch q⟩
    · have z := List.mem_singleton.mp z
      subst z; exact ⟨o, ho, fun v q => by rw [hd] at q; cases q⟩
  keep := fun i h h' st k => by
    obtain ⟨⟨old, he⟩, hi, hne⟩ := st
    exact ⟨⟨old, k e (by simp) _ he⟩, hi.at fun o q => k it (by simp) o q, hne⟩
  item := by
    intro X hP hw hK hc i pins s σ H E I hf st hg
    subst hP hw hK
    obtain ⟨⟨old, he⟩, hit, hne⟩ := st
    obtain ⟨xs, x, hq, hx⟩ := hg
    obtain ⟨its, rv, p, hz⟩ := I.tuple hq
    obtain ⟨u, hu, ru⟩ := rv.get hx
    have isT : s.heap.IsTuple a its.toArray := p
    obtain ⟨oa, ga, ca, _⟩ := id isT
    obtain ⟨oi, gi, ci, _⟩ := id hit
    have nai : a ≠ it := apart ga gi ca ci (by decide)
    have nea : e ≠ a := apart he ga rfl ca (by decide)
    have hel : e < s.heap.objs.size := Heap.lt_size he
    have hil : it < s.heap.objs.size := Heap.lt_size gi
    have hlt : i < its.toArray.size := by
      have := (List.getElem?_eq_some_iff.mp hu).1
      simpa using this
    refine wpAny_pyNext_enum_itemD (Draws.tuple (A := X.A.in1) (I.ok.hd hc) it a nai its.toArray) he ⟨hit, isT⟩ hlt hne
      (by simp [hne, nea]) fun y h' tk hy ho st' hT hsz hk => ?_
    have yu : y = u := by
      have : its[i]? = some y := by simpa using hy
      rw [hu] at this
      cases this; rfl
    subst yu
    refine ⟨_, rfl, wpAny_letOwnedTupleGo_enum (s := { s with heap := h', toks := tk + 1 }) ho fun h2 he2 sb => ?_⟩
    have hT2 := (sb.2 _ (Nat.ne_of_gt hel)).trans hT
    have new : ObjOk X.prog X.w (upd H s.heap.objs.size (.tup [.int (i : Nat), x])) h2 s.heap.objs.size (.tup [.int (i : Nat), x]) :=
      ⟨by show 2 ≤ sizeLine; decide, [.int i tk, y], .cons ⟨_, rfl⟩ (.cons ru .nil), ⟨_, hT2, rfl, _, rfl⟩⟩
    have old2 : ∀ b ob, b ∉ [e, it] → s.heap.get? b = some ob → h2.get? b = some ob := fun b ob hb q => by
      have b1 : b ≠ e := fun z => hb (by simp [z])
      have b2 : b ≠ it := fun z => hb (by simp [z])
      exact (sb.2 b b1).trans (hk b ob b1 b2 q)
    have I1 := I.turnedNew (t' := tk + 1) (ch := [e, it]) old2 hf (Nat.le_refl _) new
    refine ⟨.ref s.heap.objs.size, _, I1, rfl, ⟨_, x, rfl, I.hok.fresh (Nat.le_refl _), rfl, fun ys hy => by rw [I.tuple_inj hy hq]; exact hx⟩,
      ⟨⟨y, he2⟩, st'.1.at fun o q => (sb.2 it (Ne.symm hne)).trans q, hne⟩, fun b hb => ?_⟩
    have hb' : b < s.heap.objs.size := by
      rcases List.mem_cons.mp hb with z | z
      · rw [z]; exact hel
      · rw [List.mem_singleton.mp z]; exact hil
    rw [upd_ne (Nat.ne_of_lt hb')]
    exact (hf b hb).1
  done := by
    intro X hP hw hK hc i pins s σ H E I hf st hg
    subst hP hw hK
    obtain ⟨⟨old, he⟩, hit, hne⟩ := st
    obtain ⟨xs, hq, hx⟩ := hg
    obtain ⟨its, rv, p, hz⟩ := I.tuple hq
    obtain ⟨oa, ga, ca, _⟩ := id (show s.heap.IsTuple a its.toArray from p)
    obtain ⟨oi, gi, ci, _⟩ := id hit
    have nai : a ≠ it := apart ga gi ca ci (by decide)
    obtain ⟨f0, f1, f2, f3, f4, f5⟩ := hf it (by simp)
    have ei : i = its.toArray.size := by
      rw [← hx, rv.length, List.size_toArray]
    subst ei
    refine wpAny_pyNext_enum_endD (Draws.tuple (A := X.A.in1) (I.ok.hd hc) it a nai its.toArray) he ⟨hit, p⟩ fun h' eb => ?_
    exact ⟨rfl, I.turned (t' := s.toks) (fun b o hb q => eb b o hb q) f0 f1 f3 f4 f5⟩
  self := fun A i s Q E st h => by
    obtain ⟨⟨_, he⟩, _⟩ := st
    exact wpAny_pyIter_enum he h
/-- enumerate(e), e a tuple -/
def iEnumT (K : PySem.W.Frag) (te : TE) : TI := fun σ H R =>
  te σ H fun v H1 => ∃ a xs, v = .ref a ∧ SqT K H1 a xs ∧ R (IteT K a) H1
theorem pi_enumT {X : Cx} {e : Expr} {te : TE} {p pos tpos : Pos} {elts : List Expr} {kk : Nat} (hg : Gl X "enumerate")
    (hm : X.mg "enumerate" = none) (he : PE X e te) (hs : starEach [e] X.env = (false, eval e X.env) :: starEach [] X.env := by rfl) :
    PI X (.Tuple elts kk tpos) (.Call (.Name "enumerate" p) [e] [] pos) (iEnumT X.K te) := by
  refine ⟨fun pins s σ H R I h => ?_⟩
  refine Call_ (ld_blt I hg hm boot_enumerate (PyProof.Rows.callWith_type1 (args_cons
    (thn (he.run pins s σ H _ I h) fun u s1 ⟨v, H1, I1, r1, q1⟩ => args_nil ?_) hs) hs rfl))
  obtain ⟨a, xs, rfl, hq, q⟩ := q1
  cases r1
  obtain ⟨its, rv, isT, hz⟩ := I1.tuple hq
  refine call_enumT (show s1.heap.IsTuple a its.toArray from isT) fun h' en ti keep => wpAny_pyIter_enum en ?_
  refine ⟨s1.heap.objs.size + 1, [s1.heap.objs.size + 1, s1.heap.objs.size], _, _, H1, rfl, I1.kept (t' := s1.toks) keep,
    turn_enumT a (s1.heap.objs.size + 1) s1.heap.objs.size, ⟨⟨.none, en⟩, ti, Nat.succ_ne_self _⟩, fun b hb => ?_, q⟩
  have le : s1.heap.objs.size ≤ b := by
    rcases List.mem_cons.mp hb with z | z
    · rw [z]; exact Nat.le_add_right _ _
    · rw [List.mem_singleton.mp z]; exact Nat.le_refl _
  exact I1.fpOk le (I1.hok.fresh le)
/-- a loop over such pairs, its body already read -/
theorem for_enumT {K : PySem.W.Frag} {a : Addr} {xs : List V} {B : (L2.St → Hp → Prop) → V → L2.St → Hp → Prop} {nx : L2.St → Hp → Prop} {σ : L2.St} {H : Hp}
    (Pv : Nat → L2.St → Hp → Prop) (h0 : Pv 0 σ H) (hl : ∀ i σ' H', i ≤ xs.length → Pv i σ' H' → SqT K H' a xs)
    (hs : ∀ (i : Nat) x t σ' H', xs[i]? = some x → Pv i σ' H' → H' t = none → B (Pv (i + 1)) (.ref t) σ' (upd H' t (.tup [.int (i : Nat), x])))
    (hd : ∀ σ' H', Pv xs.length σ' H' → nx σ' H') :
    ∃ W : Nat → Nat → L2.St → Hp → Prop, (∃ m, W 0 m σ H) ∧ ∀ i m σ H, W i m σ H →
      ((IteT K a).stop i H ∧ nx σ H) ∨ ((IteT K a).go i H ∧ ∃ N : L2.St → Hp → Prop, (∀ σ' H', N σ' H' → ∃ m', m' < m ∧ W (i + 1) m' σ' H') ∧
        ∀ x H', (IteT K a).yld i H x H' → B N x σ H') := by
  refine ⟨fun i m σ H => m = xs.length - i ∧ i ≤ xs.length ∧ Pv i σ H, ⟨xs.length, by simp, Nat.zero_le _, h0⟩, ?_⟩
  rintro i m σ' H' ⟨rfl, hi, p⟩
  have ql := hl i σ' H' hi p
  by_cases c : i < xs.length
  · refine Or.inr ⟨⟨xs, xs[i], ql, by simp [c]⟩, Pv (i + 1), fun σ2 H2 p2 => ⟨xs.length - (i + 1), by omega, rfl, c, p2⟩, fun v H2 y => ?_⟩
    obtain ⟨t, x, rfl, nt, rfl, e2⟩ := y
    exact hs i x t σ' H' (e2 xs ql) p nt
  · have e : i = xs.length := by omega
    subst e
    exact Or.inl ⟨⟨xs, ql, rfl⟩, hd σ' H' p⟩
/-- .. in a comprehension -/
theorem lc_enumT {K : PySem.W.Frag} {a : Addr} {xs : List V} {gt : TG} {tt : TT} {te : TE} {vs : List Nat} {σ : L2.St} {H1 : Hp} {D : Addr} {Qd : Hp → Prop}
    (Pv : Nat → Hp → Prop) (h0 : Pv 0 (upd H1 D (.lst []))) (hl : ∀ i H, i ≤ xs.length → Pv i H → SqT K H a xs)
    (hs : ∀ (i : Nat) x t H, xs[i]? = some x → Pv i H → H t = none → gt (.ref t) (wipe σ vs) (upd H t (.tup [.int (i : Nat), x])) fun σ2 H2 =>
      wipe σ2 vs = wipe σ vs ∧ tt σ2 H2 fun b H3 => if b = true then te σ2 H3 fun y H4 => ∃ acc, H4 D = some (.lst acc) ∧
        acc.length < sizeLine ∧ Pv (i + 1) (upd H4 D (.lst (acc ++ [y]))) else Pv (i + 1) H3)
    (hd : ∀ H, Pv xs.length H → Qd H) :
    ∃ W : Nat → Nat → Hp → Prop, (∃ m, W 0 m (upd H1 D (.lst []))) ∧ ∀ i m H, W i m H →
      ((IteT K a).stop i H ∧ Qd H) ∨ ((IteT K a).go i H ∧ ∃ Nx : Hp → Prop, (∀ H', Nx H' → ∃ m', m' < m ∧ W (i + 1) m' H') ∧
        ∀ x H', (IteT K a).yld i H x H' → gt x (wipe σ vs) H' fun σ2 H2 => wipe σ2 vs = wipe σ vs ∧ tt σ2 H2 fun b H3 =>
          if b = true then te σ2 H3 fun y H4 => ∃ acc, H4 D = some (.lst acc) ∧ acc.length < sizeLine ∧
            Nx (upd H4 D (.lst (acc ++ [y]))) else Nx H3) := by
  refine ⟨fun i m H => m = xs.length - i ∧ i ≤ xs.length ∧ Pv i H, ⟨xs.length, by simp, Nat.zero_le _, h0⟩, ?_⟩
  rintro i m H ⟨rfl, hi, p⟩
  have ql := hl i H hi p
  by_cases c : i < xs.length
  · refine Or.inr ⟨⟨xs, xs[i], ql, by simp [c]⟩, Pv (i + 1), fun H2 p2 => ⟨xs.length - (i + 1), by omega, rfl, c, p2⟩, fun v H2 y => ?_⟩
    obtain ⟨t, x, rfl, nt, rfl, e2⟩ := y
    exact hs i x t H (e2 xs ql) p nt
  · have e : i = xs.length := by omega
    subst e
    exact Or.inl ⟨⟨xs, ql, rfl⟩, hd H p⟩
end Tw

set_option linter.all false
set_option maxRecDepth 10000
/-! numbers, rows, polys: what the answers are -/
namespace K03
/-- without the last items that z holds of -/
def trimBy {α : Type} (z : α → Bool) : List α → List α
  | [] => []
  | a :: l => match trimBy z l with
    | [] => if z a then [] else [a]
    | b :: r => a :: b :: r
theorem trimBy_take {α : Type} (z : α → Bool) : ∀ (l : List α) (k : Nat), k ≤ l.length → (∀ i a, k ≤ i → l[i]? = some a → z a = true) → (k = 0 ∨ ∃ a, l[k - 1]? = some a ∧ z a = false) → trimBy z l = l.take k
  | [], k, hk, _, _ => by simp [trimBy]
  | a :: l, 0, _, h1, _ => by
    have ih := trimBy_take z l 0 (Nat.zero_le _) (fun i b _ e => h1 (i + 1) b (Nat.zero_le _) (by simpa using e)) (.inl rfl)
    have za := h1 0 a (Nat.le_refl _) rfl
    simp [trimBy, ih, za]
  | a :: l, 1, _, h1, h2 => by
    have ih := trimBy_take z l 0 (Nat.zero_le _) (fun i b _ e => h1 (i + 1) b (by omega) (by simpa using e)) (.inl rfl)
    have za : z a = false := by
      rcases h2 with h2 | ⟨b, e, f⟩
      · cases h2
      · simp at e; subst e; exact f
    simp [trimBy, ih, za]
  | a :: l, k + 2, hk, h1, h2 => by
    have hk' : k + 1 ≤ l.length := by rw [List.length_cons] at hk; omega
    have ih := trimBy_take z l (k + 1) hk' (fun i b hi e => h1 (i + 1) b (by omega) (by simpa using e)) (by
      rcases h2 with h2 | ⟨b, e, f⟩
      · cases h2
      · exact .inr ⟨b, by simpa using e, f⟩)
    have hn : l.take (k + 1) ≠ [] := by
      intro e
      have := congrArg List.length e
      rw [List.length_take, List.length_nil] at this
      omega
    rw [trimBy, ih]
    cases e : l.take (k + 1) with
    | nil => exact absurd e hn
    | cons b r => simp [e]
theorem trimBy_len {α : Type} (z : α → Bool) : ∀ l : List α, (trimBy z l).length ≤ l.length
  | [] => Nat.le_refl _
  | a :: l => by
    have := trimBy_len z l
    rw [trimBy]
    split
    · split <;> simp
    · rename_i b r e
      rw [e] at this
      simpa using this
theorem trimBy_mem {α : Type} (z : α → Bool) {x : α} : ∀ l : List α, x ∈ trimBy z l → x ∈ l
  | [], h => h
  | a :: l, h => by
    have ih := trimBy_mem z (x := x) l
    rw [trimBy] at h
    split at h
    · split at h
      · simp at h
      · simp at h; simp [h]
    · rename_i b r e
      rw [e] at ih
      rcases List.mem_cons.mp h with h | h
      · simp [h]
      · exact List.mem_cons_of_mem _ (ih h)
theorem trimBy_last {α : Type} (z : α → Bool) {x : α} : ∀ l : List α, (trimBy z l).getLast? = some x → z x = false
  | [], h => by simp [trimBy] at h
  | a :: l, h => by
    have ih := trimBy_last z (x := x) l
    rw [trimBy] at h
    split at h
    · split at h
      · simp at h
      · rename_i hz
        simp at h; subst h; simpa using hz
    · rename_i b r e
      rw [e] at ih
      exact ih (by simpa using h)
abbrev trimI (l : List Int) : List Int := trimBy (fun c => c == 0) l
abbrev trimP (p : List (List Int)) : List (List Int) := trimBy (fun r => r.isEmpty) p
/-- a row, a poly -/
def okR (r : List Int) : Prop := ∀ c, r.getLast? = some c → c ≠ 0
def okP (p : List (List Int)) : Prop := (∀ r ∈ p, okR r) ∧ ∀ r, p.getLast? = some r → r ≠ []
theorem okR_trim (l : List Int) : okR (trimI l) := fun c h => by
  have := trimBy_last _ _ h
  simpa using this
theorem okP_trim {p : List (List Int)} (h : ∀ r ∈ p, okR r) : okP (trimP p) := ⟨fun r hr => h r (trimBy_mem _ _ hr), fun r hr => by
  have := trimBy_last _ _ hr
  intro e
  subst e
  simp at this⟩
/-- at most n long, numbers at most b -/
def Bd (n : Nat) (b : Nat) (p : List (List Int)) : Prop := p.length ≤ n ∧ ∀ r ∈ p, r.length ≤ n ∧ ∀ c ∈ r, c.natAbs ≤ b
def T (n m : Int) : List Int → Int
  | [] => 0
  | c :: r => T n m r * n + c * m ^ r.length
def lng : List (List Int) → Nat
  | [] => 0
  | r :: p => max r.length (lng p)
theorem lng_le {r : List Int} : ∀ {p : List (List Int)}, r ∈ p → r.length ≤ lng p
  | a :: p, h => by
    rw [lng]
    rcases List.mem_cons.mp h with rfl | h
    · exact Nat.le_max_left _ _
    · exact Nat.le_trans (lng_le h) (Nat.le_max_right _ _)
theorem lng_bd {n : Nat} : ∀ {p : List (List Int)}, (∀ r ∈ p, r.length ≤ n) → lng p ≤ n
  | [], _ => Nat.zero_le _
  | r :: p, h => by
    rw [lng]
    exact Nat.max_le.mpr ⟨h r (by simp), lng_bd fun a ha => h a (by simp [ha])⟩
def numAt (n m : Int) (L : Nat) (r : List Int) : Int := T n m r * m ^ (L - r.length)
def nums (n m : Int) (p : List (List Int)) : List Int := p.map (numAt n m (lng p))
/-- what numbers and M share -/
def G : Nat → List Int → Nat
  | M, [] => M
  | M, x :: l => G (Nat.gcd M x.natAbs) l
def mm (m : Int) (k : Nat) : Nat := m.natAbs ^ k
def atx (n m : Int) (p : List (List Int)) : List Int := trimI ((nums n m p).map fun x => x / (G (mm m (lng p - 1)) (nums n m p) : Int))
def col (p : List (List Int)) (k : Nat) : List Int := trimI (p.map fun r => r.getD k 0)
def exch (p : List (List Int)) : List (List Int) := trimP ((List.range (lng p)).map (col p))
theorem okP_exch (p : List (List Int)) : okP (exch p) := okP_trim fun r hr => by
  obtain ⟨k, _, rfl⟩ := List.mem_map.mp hr
  exact okR_trim _
theorem bd_exch {n b : Nat} {p : List (List Int)} (h : Bd n b p) : Bd n b (exch p) := by
  refine ⟨Nat.le_trans (trimBy_len _ _) (by rw [List.length_map, List.length_range]; exact lng_bd fun r hr => (h.2 r hr).1), fun r hr => ?_⟩
  obtain ⟨k, _, rfl⟩ := List.mem_map.mp (trimBy_mem _ _ hr)
  refine ⟨Nat.le_trans (trimBy_len _ _) (by rw [List.length_map]; exact h.1), fun c hc => ?_⟩
  obtain ⟨r, hr, rfl⟩ := List.mem_map.mp (trimBy_mem _ _ hc)
  rw [List.getD_eq_getElem?_getD]
  cases e : r[k]? with
  | none => simp
  | some x => exact (h.2 r hr).2 x (List.mem_of_getElem? e)
theorem G_append : ∀ (M : Nat) (l : List Int) (x : Int), G M (l ++ [x]) = Nat.gcd (G M l) x.natAbs
  | M, [], x => rfl
  | M, y :: l, x => by
    show G _ (l ++ [x]) = Nat.gcd (G _ l) x.natAbs
    exact G_append _ l x
theorem G_dvd : ∀ (l : List Int) (M : Nat), G M l ∣ M
  | [], M => Nat.dvd_refl _
  | x :: l, M => Nat.dvd_trans (G_dvd l _) (Nat.gcd_dvd_left _ _)
theorem G_mem {y : Int} : ∀ (l : List Int) (M : Nat), y ∈ l → G M l ∣ y.natAbs
  | x :: l, M, h => by
    rcases List.mem_cons.mp h with rfl | h
    · exact Nat.dvd_trans (G_dvd l _) (Nat.gcd_dvd_right _ _)
    · exact G_mem l _ h
theorem G_gcd : ∀ (l : List Int) (a M : Nat), Nat.gcd (G a l) M = G (Nat.gcd a M) l
  | [], a, M => rfl
  | x :: l, a, M => by
    show Nat.gcd (G (Nat.gcd a x.natAbs) l) M = G (Nat.gcd (Nat.gcd a M) x.natAbs) l
    rw [G_gcd l, Nat.gcd_assoc, Nat.gcd_comm x.natAbs M, ← Nat.gcd_assoc]
theorem G_one (l : List Int) : G 1 l = 1 := Nat.eq_one_of_dvd_one (G_dvd l 1)
/-- the program's share -/
theorem G_zero (l : List Int) (M : Nat) : Nat.gcd (G 0 l) M = G M l := by rw [G_gcd, Nat.gcd_zero_left]
/-- a over b is N over D, b positive, nothing shared -/
def Lo (a b N D : Int) : Prop := 0 < b ∧ Nat.gcd a.natAbs b.natAbs = 1 ∧ a * D = N * b
theorem lo_share {a b N D : Int} (h : Lo a b N D) (d : 0 < D) : b * (Nat.gcd N.natAbs D.natAbs : Int) = D ∧ a * (Nat.gcd N.natAbs D.natAbs : Int) = N := by
  obtain ⟨b0, c, e⟩ := h
  have dv : b ∣ D := by
    have h1 : b.natAbs ∣ a.natAbs * D.natAbs := by
      rw [← Int.natAbs_mul, e, Int.natAbs_mul]
      exact Nat.dvd_mul_left _ _
    have h2 : b.natAbs ∣ D.natAbs := (Nat.Coprime.dvd_of_dvd_mul_left (Nat.coprime_comm.mp c) h1)
    exact Int.natAbs_dvd_natAbs.mp h2
  obtain ⟨k, rfl⟩ := dv
  have k0 : 0 < k := by
    rcases Int.lt_or_le 0 k with z | z
    · exact z
    · have := Int.mul_le_mul_of_nonneg_left z (Int.le_of_lt b0)
      rw [Int.mul_zero] at this
      omega
  have eN : N = a * k := by
    have h3 : (a * k) * b = N * b := by rw [← e, Int.mul_assoc, Int.mul_comm k b]
    exact (Int.eq_of_mul_eq_mul_right (by omega) h3).symm
  subst eN
  have g : (Nat.gcd (a * k).natAbs (b * k).natAbs : Int) = k := by
    rw [Int.natAbs_mul, Int.natAbs_mul, Nat.gcd_mul_right, c, Nat.one_mul]
    omega
  rw [g]
  exact ⟨rfl, rfl⟩
/-- the least common multiple's step -/
theorem lcm_step {l g b h M : Nat} (m0 : 0 < M) (e1 : l * g = M) (e2 : b * h = M) : (l * b / Nat.gcd l b) * Nat.gcd g h = M := by
  have hl : l ∣ M := ⟨g, e1.symm⟩
  have l0 : 0 < l := Nat.pos_of_dvd_of_pos hl m0
  have d0 : 0 < Nat.gcd l b := Nat.gcd_pos_of_pos_left _ l0
  have q : (l * b / Nat.gcd l b) * Nat.gcd l b = l * b := Nat.div_mul_cancel (Nat.dvd_trans (Nat.gcd_dvd_left l b) (Nat.dvd_mul_right _ _))
  have k : Nat.gcd g h * (l * b) = M * Nat.gcd l b := by
    rw [← Nat.gcd_mul_right]
    have a1 : g * (l * b) = M * b := by rw [← e1, ← Nat.mul_assoc, Nat.mul_comm g l]
    have a2 : h * (l * b) = M * l := by rw [← e2, Nat.mul_comm l b, ← Nat.mul_assoc, Nat.mul_comm h b]
    rw [a1, a2, Nat.gcd_mul_left, Nat.gcd_comm b l]
  refine Nat.eq_of_mul_eq_mul_right d0 ?_
  rw [Nat.mul_assoc, Nat.mul_comm (Nat.gcd g h), ← Nat.mul_assoc, q, Nat.mul_comm (l * b), k]
theorem pow_pos' {m : Int} (h : 0 < m) : ∀ k : Nat, 0 < m ^ k
  | 0 => by simp
  | k + 1 => by rw [Int.pow_succ]; exact Int.mul_pos (pow_pos' h k) h
theorem mm_eq {m : Int} (h : 0 < m) (k : Nat) : ((mm m k : Nat) : Int) = m ^ k := by
  unfold mm
  rw [Int.natCast_pow, Int.natAbs_of_nonneg (Int.le_of_lt h)]
/-- a row's worth, over the common base -/
theorem lo_at {n m a b : Int} {r : List Int} {L : Nat} (m0 : 0 < m) (hl : r.length ≤ L) (h : Lo a b (T n m r * m) (m ^ r.length)) : Lo a b (numAt n m L r) (m ^ (L - 1)) := by
  refine ⟨h.1, h.2.1, ?_⟩
  have e := h.2.2
  unfold numAt
  cases hr : r with
  | nil =>
    subst hr
    have : a = 0 := by simpa [T] using e
    simp [T, this]
  | cons c s =>
    rw [← hr]
    have l1 : r.length = s.length + 1 := by rw [hr]; rfl
    have e2 : a * m ^ s.length = T n m r * b := by
      rw [l1, Int.pow_succ] at e
      refine Int.eq_of_mul_eq_mul_right (a := m) (by omega) ?_
      rw [Int.mul_assoc, e, Int.mul_assoc, Int.mul_comm m b, Int.mul_assoc]
    have e3 : L - 1 = s.length + (L - r.length) := by omega
    rw [e3, Int.pow_add, ← Int.mul_assoc, e2, Int.mul_assoc, Int.mul_comm b, ← Int.mul_assoc]
/-! sizes -/
theorem T_le {n m : Int} {B : Nat} (hn : n.natAbs ≤ 12) (m0 : m.natAbs ≤ 7) : ∀ r : List Int, (∀ c ∈ r, c.natAbs ≤ B) → (T n m r).natAbs ≤ B * 20 ^ r.length
  | [], _ => by simp [T]
  | c :: r, h => by
    have ih := T_le hn m0 r fun d hd => h d (by simp [hd])
    have hc := h c (by simp)
    rw [T]
    refine Nat.le_trans (Int.natAbs_add_le _ _) ?_
    rw [Int.natAbs_mul, Int.natAbs_mul, Int.natAbs_pow, List.length_cons, Nat.pow_succ]
    have a1 : (T n m r).natAbs * n.natAbs ≤ B * 20 ^ r.length * 12 := Nat.mul_le_mul ih hn
    have a2 : c.natAbs * m.natAbs ^ r.length ≤ B * 20 ^ r.length := Nat.mul_le_mul hc (Nat.le_trans (Nat.pow_le_pow_left m0 _) (Nat.pow_le_pow_left (by omega) _))
    have a3 : B * (20 ^ r.length * 20) = B * 20 ^ r.length * 20 := by rw [Nat.mul_assoc]
    omega
theorem num_le {n m : Int} {B L : Nat} (hn : n.natAbs ≤ 12) (m0 : m.natAbs ≤ 7) (hL : L ≤ 10) {r : List Int} (hr : r.length ≤ 10) (h : ∀ c ∈ r, c.natAbs ≤ B) : (numAt n m L r).natAbs ≤ B * 20 ^ 10 * 7 ^ 10 := by
  unfold numAt
  rw [Int.natAbs_mul, Int.natAbs_pow]
  refine Nat.mul_le_mul (Nat.le_trans (T_le hn m0 r h) (Nat.mul_le_mul_left _ (Nat.pow_le_pow_right (by omega) hr))) ?_
  exact Nat.le_trans (Nat.pow_le_pow_left m0 _) (Nat.pow_le_pow_right (by omega) (by omega))
theorem lo_lean {top low : Int} (h : 0 < low) : Lo (top / (Nat.gcd top.natAbs low.natAbs : Int)) (low / (Nat.gcd top.natAbs low.natAbs : Int)) top low := by
  have g0 : 0 < Nat.gcd top.natAbs low.natAbs := Nat.gcd_pos_of_pos_right _ (by omega)
  generalize hg : Nat.gcd top.natAbs low.natAbs = g at g0
  have d1 : (g : Int) ∣ top := Int.natAbs_dvd_natAbs.mp (by rw [← hg]; exact Nat.gcd_dvd_left _ _)
  have d2 : (g : Int) ∣ low := Int.natAbs_dvd_natAbs.mp (by rw [← hg]; exact Nat.gcd_dvd_right _ _)
  obtain ⟨x, rfl⟩ := d1
  obtain ⟨y, rfl⟩ := d2
  have gn : (g : Int) ≠ 0 := by omega
  rw [Int.mul_ediv_cancel_left _ gn, Int.mul_ediv_cancel_left _ gn]
  refine ⟨?_, ?_, by grind⟩
  · rcases Int.lt_or_le 0 y with z | z
    · exact z
    · have := Int.mul_le_mul_of_nonneg_left z (show (0 : Int) ≤ g by omega)
      rw [Int.mul_zero] at this
      omega
  · rw [Int.natAbs_mul, Int.natAbs_mul, Nat.gcd_mul_left, Int.natAbs_natCast] at hg
    have h1 : g * Nat.gcd x.natAbs y.natAbs = g * 1 := by rw [hg, Nat.mul_one]
    exact Nat.eq_of_mul_eq_mul_left g0 h1
theorem lo_mul {a b N D n m x y : Int} (h : Lo a b N D) (g : Lo x y (a * n) (b * m)) : Lo x y (N * n) (D * m) := by
  refine ⟨g.1, g.2.1, ?_⟩
  have b0 := h.1
  have h1 := h.2.2
  have h2 := g.2.2
  have : (x * (D * m)) * b = (N * n * y) * b := by grind
  exact Int.eq_of_mul_eq_mul_right (by omega) this
theorem lo_add {a b N D c x y : Int} (h : Lo a b N D) (g : Lo x y (a * 1 + c * b) (b * 1)) : Lo x y (N + c * D) D := by
  refine ⟨g.1, g.2.1, ?_⟩
  have b0 := h.1
  have h1 := h.2.2
  have h2 := g.2.2
  have : (x * D) * b = ((N + c * D) * y) * b := by grind
  exact Int.eq_of_mul_eq_mul_right (by omega) this
theorem lo_le {a b N D : Int} (h : Lo a b N D) (d : 0 < D) : b ≤ D := by
  have := (lo_share h d).1
  have g0 : 0 < Nat.gcd N.natAbs D.natAbs := Nat.gcd_pos_of_pos_right _ (by omega)
  have b0 := h.1
  have := Int.mul_le_mul_of_nonneg_left (show (1 : Int) ≤ (Nat.gcd N.natAbs D.natAbs : Int) by omega) (show 0 ≤ b by omega)
  omega
theorem pow_le7 {m : Int} (m0 : 0 < m) (m1 : m ≤ 7) (k : Nat) : m ^ k ≤ 7 ^ k := by
  induction k with
  | zero => simp
  | succ k ih =>
    rw [Int.pow_succ, Int.pow_succ]
    exact Int.mul_le_mul ih m1 (by omega) (Int.le_of_lt (pow_pos' (by omega) k))
theorem pow_mono7 {k j : Nat} (h : k ≤ j) : (7 : Int) ^ k ≤ 7 ^ j := by
  have := Nat.pow_le_pow_right (n := 7) (by omega) h
  exact_mod_cast this
theorem max_lng {p : List (List Int)} {k : Int} (h1 : k ∈ (0 : Int) :: p.map (fun r => (r.length : Int))) (h2 : ∀ y ∈ (0 : Int) :: p.map (fun r => (r.length : Int)), y ≤ k) : k = (lng p : Int) := by
  have up : (lng p : Int) ≤ k := by
    clear h1
    induction p with
    | nil => exact h2 0 (by simp)
    | cons r p ih =>
      have a := ih fun y hy => h2 y (by
        rcases List.mem_cons.mp hy with hy | hy
        · simp [hy]
        · rw [List.map_cons]; exact List.mem_cons_of_mem _ (List.mem_cons_of_mem _ hy))
      have b := h2 r.length (by simp)
      rw [lng]
      omega
  rcases List.mem_cons.mp h1 with h | h
  · omega
  · obtain ⟨r, hr, rfl⟩ := List.mem_map.mp h
    have := lng_le hr
    omega
/-- the loop's step -/
theorem low_step {l Gn M : Nat} {a b N : Int} (m0 : 0 < M) (e : l * Gn = M) (h : Lo a b N (M : Int)) : (l * b.natAbs / Nat.gcd l b.natAbs) * Nat.gcd Gn N.natAbs = M := by
  have sh := (lo_share h (by omega)).1
  have e2 : b.natAbs * Nat.gcd N.natAbs M = M := by
    have := congrArg Int.natAbs sh
    rw [Int.natAbs_mul, Int.natAbs_natCast, Int.natAbs_natCast] at this
    exact this
  have := lcm_step m0 e e2
  have d : Gn ∣ M := ⟨l, by rw [← e, Nat.mul_comm]⟩
  have g : Nat.gcd Gn (Nat.gcd N.natAbs M) = Nat.gcd Gn N.natAbs := by
    rw [Nat.gcd_comm N.natAbs M, ← Nat.gcd_assoc, Nat.gcd_eq_left d]
  rw [g] at this
  exact this
theorem low_end {l Gn M : Nat} {a b N : Int} (m0 : 0 < M) (e : l * Gn = M) (d : Gn ∣ N.natAbs) (h : Lo a b N (M : Int)) : a * ((l : Int) / b) = N / (Gn : Int) := by
  obtain ⟨s1, s2⟩ := lo_share h (by omega)
  have g1 : Gn ∣ M := ⟨l, by rw [← e, Nat.mul_comm]⟩
  have g0 : 0 < Gn := Nat.pos_of_dvd_of_pos g1 m0
  have g2 : Gn ∣ Nat.gcd N.natAbs M := Nat.dvd_gcd d g1
  rw [Int.natAbs_natCast] at s1 s2
  obtain ⟨k, hk⟩ := g2
  rw [hk] at s1 s2
  have b0 := h.1
  have gi : (Gn : Int) ≠ 0 := by omega
  have el : (l : Int) = b * k := by
    have : (l : Int) * Gn = (b * k) * Gn := by
      rw [show (l : Int) * Gn = ((l * Gn : Nat) : Int) from by simp, e, ← s1]
      rw [Int.natCast_mul]
      grind
    exact Int.eq_of_mul_eq_mul_right gi this
  rw [el, Int.mul_ediv_cancel_left _ (by omega), ← s2, Int.natCast_mul]
  rw [show a * ((Gn : Int) * (k : Int)) = (Gn : Int) * (a * k) from by grind, Int.mul_ediv_cancel_left _ gi]
theorem mm_pos {m : Int} (h : 0 < m) (k : Nat) : 0 < mm m k := Nat.pow_pos (by omega)
theorem mm_le {m : Int} (h : m.natAbs ≤ 7) {k : Nat} (hk : k ≤ 7) : mm m k ≤ 823543 := by
  have : mm m k ≤ 7 ^ 7 := Nat.le_trans (Nat.pow_le_pow_left h k) (Nat.pow_le_pow_right (by omega) hk)
  exact this
theorem G_take {n m : Int} {p : List (List Int)} {M i : Nat} {r : List Int} (h : p[i]? = some r) : G M ((nums n m p).take (i + 1)) = Nat.gcd (G M ((nums n m p).take i)) (numAt n m (lng p) r).natAbs := by
  have e : (nums n m p)[i]? = some (numAt n m (lng p) r) := by unfold nums; rw [List.getElem?_map, h]; rfl
  rw [List.take_add_one, e]
  exact G_append _ _ _
theorem G_split : ∀ (l k : List Int) (M : Nat), G M (l ++ k) = G (G M l) k
  | [], k, M => rfl
  | x :: l, k, M => G_split l k _
theorem G_early {l : List Int} {i : Nat} (h : G 0 (l.take i) = 1) : G 0 l = 1 := by
  have e : l = l.take i ++ l.drop i := (List.take_append_drop i l).symm
  rw [e, G_split, h]
  exact G_one _
theorem max_fold : ∀ (p : List (List Int)) (a : Int), 0 ≤ a → (p.map fun r => ((r.length : Nat) : Int)).foldl max a = max a (lng p : Int)
  | [], a, h => by
    show a = max a (((0 : Nat)) : Int)
    omega
  | r :: p, a, h => by
    rw [List.map_cons, List.foldl_cons, max_fold p _ (by omega), lng]
    omega
/-! rows and polys by their numbers -/
abbrev g (r : List Int) (k : Nat) : Int := r.getD k 0
def rw' (p : List (List Int)) (i : Nat) : List Int := p.getD i []
def co (p : List (List Int)) (i j : Nat) : Int := g (rw' p i) j
theorem g_none {r : List Int} {k : Nat} (h : r.length ≤ k) : g r k = 0 := by
  unfold g
  rw [List.getD_eq_getElem?_getD, List.getElem?_eq_none h]
  rfl
theorem g_some {r : List Int} {k : Nat} (h : k < r.length) : g r k = r[k] := by
  unfold g
  rw [List.getD_eq_getElem?_getD, List.getElem?_eq_getElem h]
  rfl
theorem rw_none {p : List (List Int)} {k : Nat} (h : p.length ≤ k) : rw' p k = [] := by
  unfold rw'
  rw [List.getD_eq_getElem?_getD, List.getElem?_eq_none h]
  rfl
theorem rw_some {p : List (List Int)} {k : Nat} (h : k < p.length) : rw' p k = p[k] := by
  unfold rw'
  rw [List.getD_eq_getElem?_getD, List.getElem?_eq_getElem h]
  rfl
theorem getD_trim {α : Type} (z : α → Bool) (d : α) (hz : ∀ a, z a = true → a = d) : ∀ (l : List α) (k : Nat), (trimBy z l).getD k d = l.getD k d
  | [], k => rfl
  | a :: l, k => by
    have ih := getD_trim z d hz l
    rw [trimBy]
    cases e : trimBy z l with
    | nil =>
      rw [e] at ih
      by_cases c : z a = true
      · rw [if_pos c]
        cases k with
        | zero => simp [hz a c]
        | succ k => simpa using ih k
      · rw [if_neg c]
        cases k with
        | zero => simp
        | succ k => simpa using ih k
    | cons b r =>
      rw [e] at ih
      cases k with
      | zero => simp
      | succ k => simpa using ih k
theorem g_trim (l : List Int) (k : Nat) : g (trimI l) k = g l k := getD_trim _ _ (fun a h => by simpa using h) l k
theorem rw_trim (p : List (List Int)) (k : Nat) : rw' (trimP p) k = rw' p k := getD_trim _ _ (fun a h => by simpa using h) p k
theorem getD_take {α : Type} (d : α) (l : List α) (n k : Nat) (h : ∀ i, n ≤ i → l.getD i d = d) : (l.take n).getD k d = l.getD k d := by
  rw [List.getD_eq_getElem?_getD, List.getElem?_take]
  split
  · rw [List.getD_eq_getElem?_getD]
  · rw [h k (by omega)]
    rfl
/-- a row is known by its numbers -/
theorem row_ext {r s : List Int} (hr : okR r) (hs : okR s) (h : ∀ k, g r k = g s k) : r = s := by
  have half : ∀ {r s : List Int}, okR s → (∀ k, g r k = g s k) → s.length ≤ r.length := fun {r s} hs h => by
    rcases Nat.lt_or_ge r.length s.length with c | c
    · exfalso
      have e : s.getLast? = some s[s.length - 1] := by rw [List.getLast?_eq_getElem?, List.getElem?_eq_getElem (by omega)]
      refine hs _ e ?_
      rw [← g_some (by omega), ← h, g_none (by omega)]
    · exact c
  have l : r.length = s.length := Nat.le_antisymm (half hr fun k => (h k).symm) (half hs h)
  refine List.ext_getElem l fun k h1 h2 => ?_
  rw [← g_some h1, ← g_some h2, h]
theorem okR_nil : okR [] := fun c h => by simp at h
theorem okR_rw {p : List (List Int)} (h : ∀ r ∈ p, okR r) (i : Nat) : okR (rw' p i) := by
  rcases Nat.lt_or_ge i p.length with c | c
  · rw [rw_some c]; exact h _ (List.getElem_mem _)
  · rw [rw_none c]; exact okR_nil
theorem poly_ext {p q : List (List Int)} (hp : okP p) (hq : okP q) (h : ∀ i j, co p i j = co q i j) : p = q := by
  have e : ∀ i, rw' p i = rw' q i := fun i => row_ext (okR_rw hp.1 i) (okR_rw hq.1 i) (h i)
  have half : ∀ {p q : List (List Int)}, okP q → (∀ i, rw' p i = rw' q i) → q.length ≤ p.length := fun {p q} hq h => by
    rcases Nat.lt_or_ge p.length q.length with c | c
    · exfalso
      have e : q.getLast? = some q[q.length - 1] := by rw [List.getLast?_eq_getElem?, List.getElem?_eq_getElem (by omega)]
      refine hq.2 _ e ?_
      rw [← rw_some (by omega), ← h, rw_none (by omega)]
    · exact c
  have l : p.length = q.length := Nat.le_antisymm (half hp fun k => (e k).symm) (half hq e)
  refine List.ext_getElem l fun k h1 h2 => ?_
  rw [← rw_some h1, ← rw_some h2, e]
/-! sums -/
def S : Nat → (Nat → Int) → Int
  | 0, _ => 0
  | n + 1, f => S n f + f n
theorem S_ext {f h : Nat → Int} : ∀ n, (∀ i, i < n → f i = h i) → S n f = S n h
  | 0, _ => rfl
  | n + 1, e => by rw [S, S, S_ext n fun i hi => e i (by omega), e n (by omega)]
theorem S_zero : ∀ n, S n (fun _ => 0) = 0
  | 0 => rfl
  | n + 1 => by rw [S, S_zero n]; rfl
theorem S_more {f : Nat → Int} {n m : Nat} (h : n ≤ m) (z : ∀ i, n ≤ i → f i = 0) : S m f = S n f := by
  induction m with
  | zero => have : n = 0 := by omega
            subst this; rfl
  | succ m ih =>
    rcases Nat.lt_or_ge m n with c | c
    · have : n = m + 1 := by omega
      subst this; rfl
    · rw [S, ih c, z m c, Int.add_zero]
theorem S_add {f h : Nat → Int} : ∀ n, S n (fun i => f i + h i) = S n f + S n h
  | 0 => rfl
  | n + 1 => by rw [S, S, S, S_add n]; omega
theorem S_mul {f : Nat → Int} (c : Int) : ∀ n, S n (fun i => c * f i) = c * S n f
  | 0 => by simp [S]
  | n + 1 => by rw [S, S, S_mul c n, Int.mul_add]
theorem S_shift {f : Nat → Int} : ∀ n, S (n + 1) f = f 0 + S n (fun i => f (i + 1))
  | 0 => by simp [S]
  | n + 1 => by
    rw [S, S_shift n, S]
    omega
theorem S_rev {f : Nat → Int} : ∀ n, S (n + 1) f = S (n + 1) (fun i => f (n - i))
  | 0 => rfl
  | n + 1 => by
    rw [S, S_rev n, S_shift (f := fun i => f (n + 1 - i))]
    have : S (n + 1) (fun i => f (n + 1 - (i + 1))) = S (n + 1) (fun i => f (n - i)) := S_ext _ fun i _ => by rw [Nat.add_sub_add_right]
    rw [this]
    show _ + f (n + 1) = f (n + 1 - 0) + _
    rw [Nat.sub_zero]
    omega
theorem S_comm {f : Nat → Nat → Int} (m : Nat) : ∀ n, S n (fun i => S m (fun j => f i j)) = S m (fun j => S n (fun i => f i j))
  | 0 => by simp only [S]; exact (S_zero m).symm
  | n + 1 => by
    rw [S, S_comm m n, ← S_add]
    rfl
/-- what two rows of numbers make, multiplied -/
def cv (f h : Nat → Int) (k : Nat) : Int := S (k + 1) fun i => f i * h (k - i)
theorem cv_comm (f h : Nat → Int) (k : Nat) : cv f h k = cv h f k := by
  unfold cv
  rw [S_rev]
  refine S_ext _ fun i hi => ?_
  rw [Nat.sub_sub_self (by omega), Int.mul_comm]
/-- the loops' sum -/
theorem cv_loop {f h : Nat → Int} {n : Nat} (z : ∀ i, n ≤ i → f i = 0) (k : Nat) : S n (fun a => if a ≤ k then f a * h (k - a) else 0) = cv f h k := by
  have e1 : S (max n (k + 1)) (fun a => if a ≤ k then f a * h (k - a) else 0) = S n (fun a => if a ≤ k then f a * h (k - a) else 0) := S_more (by omega) fun i hi => by
    rw [z i hi, Int.zero_mul]
    split <;> rfl
  have e2 : S (max n (k + 1)) (fun a => if a ≤ k then f a * h (k - a) else 0) = S (k + 1) (fun a => if a ≤ k then f a * h (k - a) else 0) := S_more (by omega) fun i hi => by
    rw [if_neg (by omega)]
  rw [← e1, e2]
  unfold cv
  exact S_ext _ fun i hi => by rw [if_pos (by omega)]
theorem cv_zero {h : Nat → Int} {f : Nat → Int} (z : ∀ i, f i = 0) (k : Nat) : cv f h k = 0 := by
  unfold cv
  rw [S_ext (h := fun _ => 0) _ fun i _ => by rw [z i, Int.zero_mul], S_zero]
theorem g_set {l : List Int} {n : Nat} {c : Int} (h : n < l.length) (k : Nat) : g (l.set n c) k = if k = n then c else g l k := by
  unfold g
  rw [List.getD_eq_getElem?_getD, List.getD_eq_getElem?_getD, List.getElem?_set]
  by_cases e : n = k
  · subst e
    rw [if_pos rfl, if_pos h, if_pos rfl]
    rfl
  · rw [if_neg e, if_neg (fun z => e z.symm)]
theorem rw_set {l : List (List Int)} {n : Nat} {c : List Int} (h : n < l.length) (k : Nat) : rw' (l.set n c) k = if k = n then c else rw' l k := by
  unfold rw'
  rw [List.getD_eq_getElem?_getD, List.getD_eq_getElem?_getD, List.getElem?_set]
  by_cases e : n = k
  · subst e
    rw [if_pos rfl, if_pos h, if_pos rfl]
    rfl
  · rw [if_neg e, if_neg (fun z => e z.symm)]
/-! lowest terms -/
theorem lo_scale {a b N D N' D' : Int} (h : Lo a b N D) (d : D ≠ 0) (e : N * D' = N' * D) : Lo a b N' D' := by
  obtain ⟨h1, h2, h3⟩ := h
  refine ⟨h1, h2, Int.eq_of_mul_eq_mul_right d ?_⟩
  have : a * D * D' = N * D' * b := by rw [h3]; grind
  rw [e] at this
  grind
theorem lo_sum {a b c d N M D x y : Int} (h1 : Lo a b N D) (h2 : Lo c d M D) (d0 : D ≠ 0) (h : Lo x y (a * d + c * b) (b * d)) : Lo x y (N + M) D := by
  obtain ⟨b0, _, e1⟩ := h1
  obtain ⟨c0, _, e2⟩ := h2
  refine lo_scale h (Int.ne_of_gt (Int.mul_pos b0 c0)) ?_
  have : (a * d + c * b) * D = a * D * d + c * D * b := by grind
  rw [this, e1, e2]
  grind
theorem lo_prod {a b c d N M D E x y : Int} (h1 : Lo a b N D) (h2 : Lo c d M E) (h : Lo x y (a * c) (b * d)) : Lo x y (N * M) (D * E) := by
  obtain ⟨b0, _, e1⟩ := h1
  obtain ⟨c0, _, e2⟩ := h2
  refine lo_scale h (Int.ne_of_gt (Int.mul_pos b0 c0)) ?_
  have : a * c * (D * E) = (a * D) * (c * E) := by grind
  rw [this, e1, e2]
  grind
theorem lo_uniq {a b c d N D : Int} (h1 : Lo a b N D) (h2 : Lo c d N D) (d0 : 0 < D) : a = c ∧ b = d := by
  have s1 := lo_share h1 d0
  have s2 := lo_share h2 d0
  have g0 : (Nat.gcd N.natAbs D.natAbs : Int) ≠ 0 := by
    have : 0 < Nat.gcd N.natAbs D.natAbs := Nat.gcd_pos_of_pos_right _ (by omega)
    omega
  exact ⟨Int.eq_of_mul_eq_mul_right g0 (by rw [s1.2, s2.2]), Int.eq_of_mul_eq_mul_right g0 (by rw [s1.1, s2.1])⟩
theorem lo_num {a b N D : Int} (h : Lo a b N D) (d0 : 0 < D) : a.natAbs ≤ N.natAbs := by
  have s := lo_share h d0
  have g0 : 0 < Nat.gcd N.natAbs D.natAbs := Nat.gcd_pos_of_pos_right _ (by omega)
  have e := congrArg Int.natAbs s.2
  rw [Int.natAbs_mul, Int.natAbs_natCast] at e
  rw [← e]
  exact Nat.le_mul_of_pos_right _ g0
end K03

set_option Elab.async false
set_option linter.all false
set_option maxRecDepth 100000
set_option maxHeartbeats 4000000
local macro_rules | `(tactic| walk_at "rd") => `(tactic| dsimp only [L2.tSeq, L2.tNext, L2.tRet, L2.tRetN, L2.tAsg, L2.gName, L2.tIfS, L2.tDrop, L2.tCons, L2.tNil, L2.tC, L2.tVar, L2.tCB, L2.tAndV, L2.tOrV, L2.tNotV, L2.tB, L2.tTest, L2.tOp, L2.tUn, L2.tNot, L2.tAnd, L2.tOr, L2.tIf, L2.tCall, L2.tTup, L2.tLst, L2.tNotT, L2.tYes])
namespace K03
open PySem PySem.Spec PyProof.Rows L2 Tw
def top (i : Nat) : Stmt := PySem.Challenge.pw_twoletters_k03_common_rows_and_plain_row.main.body.getD i (.Pass ⟨0, 0, 0, 0⟩)
abbrev sWhole : Stmt := top 5
abbrev sShared : Stmt := top 6
abbrev sDivided : Stmt := top 9
abbrev sWidth : Stmt := top 10
abbrev sPacked : Stmt := top 11
abbrev sUnpacked : Stmt := top 12
abbrev sPRTimes : Stmt := top 13
abbrev sPDeriv : Stmt := top 14
abbrev sPPrime : Stmt := top 15
abbrev sPQuot : Stmt := top 16
abbrev sPCommon : Stmt := top 18
abbrev sPPlain : Stmt := top 19
abbrev sRow : Stmt := top 21
abbrev sChkR : Stmt := top 22
abbrev sChkNo : Stmt := top 23
abbrev sChkBoth : Stmt := top 24
abbrev sApTimes : Stmt := top 25
abbrev sApCommon : Stmt := top 26
abbrev sApOver : Stmt := top 27
abbrev sApPlain : Stmt := top 28
abbrev sWell : Stmt := top 30
abbrev sDraw : Stmt := top 31
abbrev sPick : Stmt := top 32
abbrev sCommon : Stmt := top 33
abbrev sLean : Stmt := top 34
abbrev sRoot : Stmt := top 35
abbrev sSmall : Stmt := top 36
abbrev sTrim : Stmt := top 37
abbrev sLine : Stmt := top 38
abbrev sSum : Stmt := top 39
abbrev sLScaled : Stmt := top 40
abbrev sProd : Stmt := top 41
abbrev sPow : Stmt := top 42
abbrev sSlope : Stmt := top 43
abbrev sThin : Stmt := top 44
abbrev sPrime : Stmt := top 45
abbrev sRest : Stmt := top 46
abbrev sLShared : Stmt := top 47
abbrev sOver : Stmt := top 48
abbrev sPlain : Stmt := top 49
abbrev sLeast : Stmt := top 50
abbrev sOwn : Stmt := top 51
abbrev sMade : Stmt := top 52
abbrev sRight : Stmt := top 53
abbrev sLaw : Stmt := top 54
/-- built-in names that the text gives no other meaning -/
structure Nb (mg : Str → Option Value) : Prop where
  isi : mg "isinstance" = none
  int : mg "int" = none
  bool : mg "bool" = none
  tup : mg "tuple" = none
  all : mg "all" = none
  len : mg "len" = none
  lst : mg "list" = none
  dvm : mg "divmod" = none
  rng : mg "range" = none
  max : mg "max" = none
  min : mg "min" = none
  abs : mg "abs" = none
  repr : mg "repr" = none
  rev : mg "reversed" = none
  any : mg "any" = none
  enm : mg "enumerate" = none
  gc : mg "gcd" = some (.builtin "math.gcd")

/-! ### what the answers are -/
def wholeB (d : PyData) : Bool := isIntD d && !isBoolD d
def lastD (ds : List PyData) (d : PyData) : Bool := match ds.getLast? with
  | some e => !(PyData.eqv e d)
  | none => true
def rowB : PyData → Bool
  | .tuple ds => (ds.map wholeB).all id && lastD ds (.int 0)
  | _ => false
def polyB : PyData → Bool
  | .tuple ds => (ds.map rowB).all id && lastD ds (.tuple [])
  | _ => false
/-- the answer is f of the datum -/
def spB (f : PyData → Bool) : Sp := fun vs H Q _ => ∃ a v d m, vs = [v] ∧ Da a H v d ∧ Sm m 1000 d ∧ ∀ H', Same H H' → Q (.bl (f d)) H'

theorem getLast_get {α : Type} {xs : List α} {x : α} (h : xs.getLast? = some x) : xs[xs.length - 1]? = some x := by
  rw [← List.getLast?_eq_getElem?]; exact h
theorem atI_end {α : Type} {xs : List α} {x : α} (h : xs.getLast? = some x) : atI xs (-1) = some x := by
  obtain ⟨ys, rfl⟩ := List.getLast?_eq_some_iff.mp h
  exact atI_last _ _
theorem last_both {a : Addr} {H : Hp} {xs : List V} {ds : List PyData} (h : DaAll a H xs ds) (ne : ds ≠ []) : ∃ x d, xs.getLast? = some x ∧ ds.getLast? = some d ∧ d ∈ ds ∧ Da a H x d := by
  have l := h.len
  have hp : 0 < ds.length := List.length_pos_iff.mpr ne
  have hx : xs.length - 1 < xs.length := by omega
  obtain ⟨d, e1, e2⟩ := h.get (List.getElem?_eq_getElem hx)
  refine ⟨xs[xs.length - 1], d, ?_, ?_, List.mem_of_getElem? e1, e2⟩
  · rw [List.getLast?_eq_getElem?]; exact List.getElem?_eq_getElem hx
  · rw [List.getLast?_eq_getElem?, ← l]; exact e1
section
variable {P : Program} {w : World} {K : PySem.W.Frag} {mg : Str → Option Value} {base : Heap}
theorem scWhole : FnScope ["value"] ["value"] (defScope sWhole) := ⟨rfl, rfl, rfl, by decide +kernel, rfl, by decide +kernel, by decide +kernel⟩
theorem ok_whole (D : Def K mg "is_whole" sWhole ["value"]) (nb : Nb mg) : Cal P w K mg base "is_whole" 1 ["value"] (spB wholeB) := by
  refine D.ok scWhole (fun vs H Q E h => ?_) (fun f cdv A out s H vs Q E hr h => ?_)
  · obtain ⟨a, v, d, m, rfl, _⟩ := h; rfl
  obtain ⟨a, v, d, m, rfl, hd, hs, q⟩ := h
  refine ⟨_, pss_one (ps_ret (pe_and (pe_callB (id := "isinstance") (r := rIsi K) call_isi (by rfl) nb.isi (by decide +kernel) (pa_cons (pv 0) (pa_cons (pe_bltn (v := .ty "int") (by rfl) nb.int (by decide +kernel) rfl) pa_nil)))
    (pe_one (pe_not (pe_callB (id := "isinstance") (r := rIsi K) call_isi (by rfl) nb.isi (by decide +kernel) (pa_cons (pv 0) (pa_cons (pe_bltn (v := .ty "bool") (by rfl) nb.bool (by decide +kernel) rfl) pa_nil))))))), ?_⟩
  walk_at "rd"
  refine ⟨v, rfl, isi hd (isi_int d) ⟨isIntD d, rfl, ?_⟩⟩
  have q' := q H (Same.refl H)
  unfold wholeB at q'
  cases hi : isIntD d with
  | false => rw [hi] at q'; exact iteF q'
  | true =>
    rw [hi] at q'
    refine iteT ⟨v, rfl, isi hd (isi_bool d) ⟨isBoolD d, rfl, q'⟩⟩

theorem tup_of {a : Addr} {H : Hp} {v : V} {d : PyData} (h : Da a H v d) (t : isTupD d = true) : ∃ p xs ds, v = .ref p ∧ d = .tuple ds ∧ p ≠ a ∧ H p = some (.tup xs) ∧ DaAll a H xs ds := by
  cases h with
  | tup n e r => exact ⟨_, _, _, rfl, rfl, n, e, r⟩
  | _ => exact absurd t (by simp [isTupD])
theorem int_of {a : Addr} {H : Hp} {v : V} {d : PyData} (h : Da a H v d) (t : wholeB d = true) : ∃ i, v = .int i ∧ d = .int i := by
  cases h with
  | int i => exact ⟨i, rfl, rfl⟩
  | _ => exact absurd t (by simp [wholeB, isIntD, isBoolD])
theorem not_tup {d : PyData} (h : isTupD d = false) : rowB d = false ∧ polyB d = false := by
  cases d <;> first | exact ⟨rfl, rfl⟩ | cases h
theorem row_tup {d : PyData} (h : rowB d = true) : isTupD d = true := by
  cases d <;> first | rfl | cases h
theorem all_mem {f : PyData → Bool} {ds : List PyData} {d : PyData} (h : (ds.map f).all id = true) (m : d ∈ ds) : f d = true := by
  rw [List.all_eq_true] at h
  exact h (f d) (List.mem_map_of_mem m)
theorem empty_iff {a : Addr} {H : Hp} {xs : List V} {ds : List PyData} (h : DaAll a H xs ds) : xs.isEmpty = ds.isEmpty := by
  cases h <;> rfl
theorem wipe1 (σ : L2.St) (j : Nat) (x : V) : wipe ((wipe σ [j]).set j (some x)) [j] = wipe σ [j] := by
  show ((σ.set j none).set j (some x)).set j none = σ.set j none
  rw [List.set_set, List.set_set]

theorem scRow : FnScope ["value", "number"] ["value"] (defScope sRow) := ⟨rfl, rfl, rfl, by decide +kernel, rfl, by decide +kernel, by decide +kernel⟩
theorem ok_row (D : Def K mg "is_row" sRow ["value"]) (nb : Nb mg) (c1 : Cal P w K mg base "is_whole" 1 ["value"] (spB wholeB)) : Cal P w K mg base "is_row" 2 ["value"] (spB rowB) := by
  refine D.ok scRow (fun vs H Q E h => ?_) (fun f cdv A out s H vs Q E hr h => ?_)
  · obtain ⟨a, v, d, m, rfl, _⟩ := h; rfl
  obtain ⟨a, v, d, m, rfl, hd, hs, q⟩ := h
  refine ⟨_, pss_cons (ps_if (PW.pt (pw_or (pt_not (pt_val (pe_callB (id := "isinstance") (r := rIsi K) call_isi (by rfl) nb.isi (by decide +kernel) (pa_cons (pv 0) (pa_cons (pe_bltn (v := .ty "tuple") (by rfl) nb.tup (by decide +kernel) rfl) pa_nil)))))
      (pw_or1 (pt_not (pt_val (pe_callB (cr_all rfl) (by rfl) nb.all (by decide +kernel) (pa_cons
        (pe_lc (own := [("number", 1)]) (g := gName 1) (tt := tYes) rfl scRow.nd (pi_tup (pv 0)) (blkOk_by (N := ["value", "number"]) (sc := defScope sRow) (by decide +kernel))
          (fun _ _ _ _ _ => pg_name (i := 1) scRow.nd rfl (Or.inl rfl)) (fun _ _ _ _ _ => pts_nil) (fun _ _ _ _ _ => pe_cal c1 hr (Nat.le_refl 1) (by rfl) (pa_cons (pv 1) pa_nil))) pa_nil)))))))
      (pss_one (ps_ret pe_bl)) pss_nil)
    (pss_one (ps_ret (pe_or (pe_notT (pv 0)) (pe_one (pe_cmpR op_ne (pe_ix ix_tup (pv 0) (pe_un un_neg pe_int) (fun _ _ => rfl)) pe_int (nomark _)))))), ?_⟩
  walk_at "rd"
  refine ⟨v, rfl, isi hd (isi_tup d) ⟨isTupD d, rfl, ?_⟩⟩
  cases ht : isTupD d with
  | false =>
    have q' := q H (Same.refl H)
    rw [(not_tup ht).1] at q'
    exact iteT (iteT q')
  | true =>
    obtain ⟨p, xs, ds, rfl, rfl, np, hp, hx⟩ := tup_of hd ht
    have hn : xs.length < 100000 := by rw [hx.len]; have := hs.len; omega
    refine iteF (lc_mapT (fun d => V.bl (wholeB d)) rfl hp hx hn (wipe1 _ 1) (fun x d H1 hm s1 dx R k => ?_) fun L H1 s1 nL hL => ?_)
    · exact ⟨x, rfl, a, x, d, _, rfl, dx, hs.mem hm, k⟩
    refine ⟨L, ds.map wholeB, rfl, SqL.of (by rw [List.map_map]; exact hL), _, rfl, ?_⟩
    have q' : Q (.bl ((ds.map wholeB).all id && lastD ds (.int 0))) H1 := q H1 s1
    cases hw : (ds.map wholeB).all id with
    | false => rw [hw] at q'; exact iteT q'
    | true =>
      rw [hw] at q'
      refine iteF ⟨.ref p, rfl, _, .inr (.inl ⟨xs, SqT.of (s1 _ _ hp), rfl⟩), _, rfl, ?_⟩
      rw [empty_iff hx, Bool.not_not]
      cases hds : ds with
      | nil => subst hds; exact iteT q'
      | cons d0 dr =>
        have ne : ds ≠ [] := by rw [hds]; simp
        obtain ⟨x, dl, e1, e2, e3, e4⟩ := last_both hx ne
        obtain ⟨i, rfl, rfl⟩ := int_of e4 (all_mem hw e3)
        refine iteF ⟨.ref p, rfl, 1, rfl, p, xs, -1, .int i, rfl, rfl, SqT.of (s1 _ _ hp), atI_end e1, rfl, ?_⟩
        unfold lastD at q'
        rw [e2] at q'
        rw [dec_int]
        simpa [PyData.eqv] using q'

/-- not value or value[-1] != 0, both ways of saying it: what is asked of the last number -/
theorem end_int {a p : Addr} {H : Hp} {Q : VK} {xs : List V} {ds : List PyData} (hx : DaAll a H xs ds) (hp : H p = some (.tup xs)) (ne : ds ≠ []) (hw : (ds.map wholeB).all id = true)
    (q : Q (.bl (lastD ds (.int 0))) H) : rIxT K (.ref p) (.int (-1)) H fun x H1 => rNe x (.int 0) H1 Q := by
  obtain ⟨x, dl, e1, e2, e3, e4⟩ := last_both hx ne
  obtain ⟨i, rfl, rfl⟩ := int_of e4 (all_mem hw e3)
  refine ⟨p, xs, -1, .int i, rfl, rfl, SqT.of hp, atI_end e1, rfl, ?_⟩
  unfold lastD at q
  rw [e2] at q
  rw [dec_int]
  simpa [PyData.eqv] using q

end
end K03

set_option Elab.async false
set_option linter.all false
set_option maxRecDepth 100000
set_option maxHeartbeats 4000000
local macro_rules | `(tactic| walk_at "rd") => `(tactic| dsimp only [L2.tSeq, L2.tNext, L2.tRet, L2.tRetN, L2.tAsg, L2.gName, L2.tIfS, L2.tDrop, L2.tCons, L2.tNil, L2.tC, L2.tVar, L2.tCB, L2.tAndV, L2.tOrV, L2.tNotV, L2.tB, L2.tTest, L2.tOp, L2.tUn, L2.tNot, L2.tAnd, L2.tOr, L2.tIf, L2.tCall, L2.tTup, L2.tLst, L2.tNotT, L2.tYes, L2.gTup, L2.gCons, L2.gNil, L2.gSub])
namespace K03
open PySem PySem.Spec PyProof.Rows L2 Tw
/-- an int from 0 on below n; the well is turned -/
def spDraw : Sp := fun vs H Q _ => ∃ a n, vs = [.ref a, .int n] ∧ We a H ∧ 0 < n ∧ n < 1073741824 ∧ ∀ d H', 0 ≤ d → d < n → Kp a H H' → We a H' → Q (.int d) H'
/-- one of a tuple's items -/
def spPick : Sp := fun vs H Q _ => ∃ a p xs, vs = [.ref a, .ref p] ∧ We a H ∧ p ≠ a ∧ H p = some (.tup xs) ∧ xs ≠ [] ∧ xs.length < 1000 ∧ ∀ (i : Nat) x H', xs[i]? = some x → Kp a H H' → We a H' → Q x H'
theorem kp_well {a : Addr} {H H' : Hp} {o : HO} (h : Kp a H H') : Kp a H (upd H' a o) := fun b u n e => by
  rw [upd_ne n]; exact h b u n e
section
variable {P : Program} {w : World} {K : PySem.W.Frag} {mg : Str → Option Value} {base : Heap}
theorem scDraw : FnScope ["_law_well_here", "_law_few", "_law_figure", "_law_seed"] ["_law_well_here", "_law_few"] (defScope sDraw) := ⟨rfl, rfl, rfl, by decide +kernel, rfl, by decide +kernel, by decide +kernel⟩
theorem ok_draw (D : Def K mg "_law_draw" sDraw ["_law_well_here", "_law_few"]) (nb : Nb mg) : Cal P w K mg base "_law_draw" 1 ["_law_well_here", "_law_few"] spDraw := by
  refine D.ok scDraw (fun vs H Q E h => ?_) (fun f cdv A out s H vs Q E hr h => ?_)
  · obtain ⟨a, n, rfl, _⟩ := h; rfl
  obtain ⟨a, n, rfl, ⟨x, y, z, hw⟩, n0, n1, q⟩ := h
  refine ⟨_, pss_cons (ps_if (pt_cmpR op_gt (pe_ix ix_list (pv 0) pe_int (fun _ _ => rfl)) pe_int (nomark _))
      (pss_cons (ps_asg (pe_callB (id := "divmod") call_divmod (by rfl) nb.dvm (by decide +kernel) (pa_cons (pe_ix ix_list (pv 0) pe_int (fun _ _ => rfl)) (pa_cons (pv 1) pa_nil)))
          (pg_tup rfl (pgs_cons (pg_sub (pv 0) pe_int set_list) (pgs_cons (pg_name (i := 2) scDraw.nd rfl (Or.inl rfl)) pgs_nil))))
        (pss_one (ps_ret (pv 2)))) pss_nil)
    (pss_cons (ps_asg (pe_op op_add (pe_ix ix_list (pv 0) pe_int (fun _ _ => rfl)) pe_int) (pg_sub (pv 0) pe_int set_list))
    (pss_cons (ps_set (i := 3) scDraw.nd rfl (Or.inl rfl) (pe_op op_mod (pe_callTy (T := "int") call_int1 (by rfl) nb.int (by decide +kernel)
        (pa_cons (pe_op op_add (pe_ix ix_list (pv 0) pe_int (fun _ _ => rfl)) (pe_op op_mul pe_int (pe_ix ix_list (pv 0) pe_int (fun _ _ => rfl)))) pa_nil)) pe_int))
    (pss_cons (ps_asg (pe_op op_mod (pe_callTy (T := "int") call_int1 (by rfl) nb.int (by decide +kernel)
        (pa_cons (pe_op op_add (pe_op op_mul (pv 3) (pe_op op_add (pe_op op_mod (pe_callTy (T := "int") call_int1 (by rfl) nb.int (by decide +kernel) (pa_cons (pv 3) pa_nil)) pe_int) pe_int))
          (pe_op op_mul pe_int (pe_ix ix_list (pv 0) pe_int (fun _ _ => rfl)))) pa_nil)) pe_int) (pg_sub (pv 0) pe_int set_list))
    (pss_one (ps_ret (pe_op op_mod (pe_callTy (T := "int") call_int1 (by rfl) nb.int (by decide +kernel) (pa_cons (pe_op op_fdiv (pe_ix ix_list (pv 0) pe_int (fun _ _ => rfl)) pe_int) pa_nil)) (pv 1))))))), ?_⟩
  walk_at "rd"
  refine ⟨.ref a, rfl, a, _, 0, .int x, rfl, rfl, SqL.of hw, rfl, x, 0, rfl, rfl, _, rfl, ite2 (fun c => ?_) (fun c => ?_)⟩
  · refine ⟨.ref a, rfl, a, _, 0, .int x, rfl, rfl, SqL.of hw, rfl, .int n, rfl, x, n, rfl, ⟨n0, n1⟩, fun t nt => ?_⟩
    have ta : t ≠ a := (show We a H from ⟨x, y, z, hw⟩).ne nt
    have h1 : upd H t (.tup [.int (x / n), .int (x % n)]) a = some (.lst [.int x, .int y, .int z]) := by rw [upd_ne ta.symm]; exact hw
    refine ⟨t, _, rfl, SqT.of upd_same, rfl, .int (x / n), _, rfl, .ref a, rfl, a, _, 0, 0, rfl, rfl, h1, rfl, .int (x % n), _, rfl, ⟨rfl, .int (x % n), rfl, ?_⟩⟩
    refine q _ _ (Int.emod_nonneg _ (by omega)) (Int.emod_lt_of_pos _ n0) (kp_well (kp_new nt)) ⟨x / n, y, z, upd_same⟩
  · refine ⟨.ref a, rfl, a, _, 2, .int z, rfl, rfl, SqL.of hw, rfl, z, 1, rfl, rfl, .ref a, rfl, a, _, 2, 2, rfl, rfl, hw, rfl, ?_⟩
    generalize hH1 : upd H a _ = H1
    have w1 : H1 a = some (.lst [.int x, .int y, .int (z + 1)]) := by rw [← hH1]; exact upd_same
    have k1 : Kp a H H1 := by rw [← hH1]; exact kp_well (Kp.refl a H)
    refine ⟨.ref a, rfl, a, _, 1, .int y, rfl, rfl, SqL.of w1, rfl, .ref a, rfl, a, _, 2, .int (z + 1), rfl, rfl, SqL.of w1, rfl, _, _, rfl, rfl, .inl ⟨by decide, by decide⟩, _, _, rfl, rfl, .inl ⟨_, rfl, _, _, rfl, rfl, (by show (0 : Int) < _; decide), ?_⟩⟩
    walk_at "rd"
    generalize hs : (_ : Int) % 2147483563 = sd
    have s0 : 0 ≤ sd := by rw [← hs]; exact Int.emod_nonneg _ (by decide)
    have s1 : sd < 2147483563 := by rw [← hs]; exact Int.emod_lt_of_pos _ (by decide)
    refine ⟨.int sd, rfl, .int sd, rfl, .inl ⟨sd, rfl, _, _, rfl, rfl, (by show (0 : Int) < _; decide), _, _, rfl, rfl, _, _, rfl, rfl, .inl ⟨by omega, by omega⟩, .ref a, rfl, a, _, 2, .int (z + 1), rfl, rfl, SqL.of w1, rfl, _, _, rfl, rfl, .inl ⟨by decide, by decide⟩, _, _, rfl, rfl, .inl ⟨_, rfl, _, _, rfl, rfl, (by show (0 : Int) < _; decide), ?_⟩⟩⟩
    walk_at "rd"
    refine ⟨.ref a, rfl, a, _, 1, 1, rfl, rfl, w1, rfl, ?_⟩
    generalize hy : (_ : Int) % 2147483563 = y2
    generalize hH2 : upd H1 a _ = H2
    have w2 : H2 a = some (.lst [.int x, .int y2, .int (z + 1)]) := by rw [← hH2]; exact upd_same
    have k2 : Kp a H H2 := by rw [← hH2]; exact kp_well k1
    refine ⟨.ref a, rfl, a, _, 1, .int y2, rfl, rfl, SqL.of w2, rfl, _, _, rfl, rfl, ⟨by decide, by decide⟩, .inl ⟨_, rfl, .int n, rfl, _, _, rfl, rfl, n0, ?_⟩⟩
    exact q _ _ (Int.emod_nonneg _ (by omega)) (Int.emod_lt_of_pos _ n0) k2 ⟨x, y2, z + 1, w2⟩

theorem scPick : FnScope ["_law_well_here", "_law_some"] ["_law_well_here", "_law_some"] (defScope sPick) := ⟨rfl, rfl, rfl, by decide +kernel, rfl, by decide +kernel, by decide +kernel⟩
theorem ok_pick (D : Def K mg "_law_pick" sPick ["_law_well_here", "_law_some"]) (nb : Nb mg) (c1 : Cal P w K mg base "_law_draw" 1 ["_law_well_here", "_law_few"] spDraw) : Cal P w K mg base "_law_pick" 2 ["_law_well_here", "_law_some"] spPick := by
  refine D.ok scPick (fun vs H Q E h => ?_) (fun f cdv A out s H vs Q E hr h => ?_)
  · obtain ⟨a, p, xs, rfl, _⟩ := h; rfl
  obtain ⟨a, p, xs, rfl, hw, np, hp, ne, hl, q⟩ := h
  refine ⟨_, pss_one (ps_ret (pe_ix ix_tup (pv 1) (pe_cal c1 hr (Nat.le_refl 1) (by rfl) (pa_cons (pv 0) (pa_cons (pe_callB (id := "len") call_len_seq (by rfl) nb.len PySem.boot_len (pa_cons (pv 1) pa_nil)) pa_nil))) (fun _ _ => rfl))), ?_⟩
  walk_at "rd"
  have l0 : 0 < xs.length := List.length_pos_iff.mpr ne
  refine ⟨.ref p, rfl, .ref a, rfl, .ref p, rfl, p, xs, rfl, .inr (SqT.of hp), a, _, rfl, hw, by omega, by omega, fun d H1 d0 d1 k1 w1 => ?_⟩
  obtain ⟨m, rfl⟩ := Int.eq_ofNat_of_zero_le d0
  have hm : m < xs.length := by omega
  exact ⟨p, xs, _, xs[m], rfl, rfl, SqT.of (k1 _ _ np hp), atI_nat (List.getElem?_eq_getElem hm), q m _ H1 (List.getElem?_eq_getElem hm) k1 w1⟩
end
end K03

set_option Elab.async false
set_option linter.all false
set_option maxRecDepth 100000
set_option maxHeartbeats 4000000
local macro_rules | `(tactic| walk_at "rd") => `(tactic| dsimp only [L2.tSeq, L2.tNext, L2.tRet, L2.tRetN, L2.tAsg, L2.gName, L2.tIfS, L2.tDrop, L2.tCons, L2.tNil, L2.tC, L2.tVar, L2.tCB, L2.tAndV, L2.tOrV, L2.tNotV, L2.tB, L2.tTest, L2.tOp, L2.tUn, L2.tNot, L2.tAnd, L2.tOr, L2.tIf, L2.tCall, L2.tTup, L2.tLst, L2.tNotT, L2.tYes, L2.gTup, L2.gCons, L2.gNil, L2.gSub, L2.tBM0, L2.tBM, L2.tWhile, L2.tFor, L2.iRng1])
namespace K03
open PySem PySem.Spec PyProof.Rows L2 Tw
/-- data that may be compared, at most n deep -/
def Nice (n : Nat) (d : PyData) : Prop := d.canLay0 = true ∧ d.depth ≤ n
theorem canAll {ds : List PyData} (h : ∀ d ∈ ds, d.canLay0 = true) : PyData.canLayAll0 ds = true := by
  induction ds with
  | nil => simp [PyData.canLayAll0]
  | cons d ds ih => simp only [PyData.canLayAll0, h d (by simp), ih fun e he => h e (by simp [he]), Bool.and_self]
theorem depAll {n : Nat} {ds : List PyData} (h : ∀ d ∈ ds, d.depth ≤ n) : PyData.depthAll ds ≤ n := by
  induction ds with
  | nil => simp [PyData.depthAll]
  | cons d ds ih =>
    simp only [PyData.depthAll]
    exact Nat.max_le.mpr ⟨h d (by simp), ih fun e he => h e (by simp [he])⟩
theorem nice_tup {n : Nat} {ds : List PyData} (h : ∀ d ∈ ds, Nice n d) : Nice (n + 1) (.tuple ds) :=
  ⟨by simp only [PyData.canLay0]; exact canAll fun d hd => (h d hd).1, by simp only [PyData.depth]; exact Nat.succ_le_succ (depAll fun d hd => (h d hd).2)⟩
theorem nice_lst {n : Nat} {ds : List PyData} (h : ∀ d ∈ ds, Nice n d) : Nice (n + 1) (.list ds) :=
  ⟨by simp only [PyData.canLay0]; exact canAll fun d hd => (h d hd).1, by simp only [PyData.depth]; exact Nat.succ_le_succ (depAll fun d hd => (h d hd).2)⟩
theorem nice_int (i : Int) : Nice 0 (.int i) := ⟨by simp [PyData.canLay0], by simp [PyData.depth]⟩
theorem Nice.up {n m : Nat} {d : PyData} (h : Nice n d) (l : n ≤ m) : Nice m d := ⟨h.1, Nat.le_trans h.2 l⟩
theorem Nice.shaped {n : Nat} {d : PyData} (h : Nice n d) (l : n ≤ 64) : SeqAt.shaped d = true := by
  unfold SeqAt.shaped
  rw [h.1, decide_eq_true (Nat.le_trans h.2 l)]; rfl
end K03

set_option Elab.async false
set_option linter.all false
set_option maxRecDepth 100000
set_option maxHeartbeats 4000000
/-! rows and polys in memory -/
namespace K03
open PySem PySem.Spec PyProof.Rows L2 Tw
/-- tuples are kept -/
def Kt (H H' : Hp) : Prop := ∀ b xs, H b = some (.tup xs) → H' b = some (.tup xs)
theorem Kt.of {H H' : Hp} (s : Same H H') : Kt H H' := fun b xs e => s b _ e
theorem Kt.trans {H H1 H2 : Hp} (x : Kt H H1) (y : Kt H1 H2) : Kt H H2 := fun b xs e => y b xs (x b xs e)
theorem kt_kp {a : Addr} {H H' : Hp} (w : We a H) (k : Kp a H H') : Kt H H' := fun b xs e => k b _ (fun z => by
  obtain ⟨x, y, c, h⟩ := w
  rw [z, h] at e; cases e) e
theorem kt_upd {L : Addr} {H : Hp} {ys : List V} {o : HO} (h : H L = some (.lst ys)) : Kt H (upd H L o) := fun b xs e => by
  rw [upd_ne (fun z => by rw [z, h] at e; cases e)]; exact e
def Ro (H : Hp) (v : V) (r : List Int) : Prop := ∃ p, v = .ref p ∧ H p = some (.tup (r.map V.int))
theorem Ro.kt {H H' : Hp} {v : V} {r : List Int} (k : Kt H H') (h : Ro H v r) : Ro H' v r := by
  obtain ⟨p, e, f⟩ := h
  exact ⟨p, e, k _ _ f⟩
def RoA (H : Hp) (xs : List V) (rs : List (List Int)) : Prop := xs.length = rs.length ∧ ∀ (i : Nat) v, xs[i]? = some v → ∃ r, rs[i]? = some r ∧ Ro H v r
theorem RoA.kt {H H' : Hp} {v : List V} {r : List (List Int)} (k : Kt H H') (h : RoA H v r) : RoA H' v r :=
  ⟨h.1, fun i v e => let ⟨r, e1, e2⟩ := h.2 i v e; ⟨r, e1, e2.kt k⟩⟩
def Po (H : Hp) (v : V) (p : List (List Int)) : Prop := ∃ q xs, v = .ref q ∧ H q = some (.tup xs) ∧ RoA H xs p
theorem Po.kt {H H' : Hp} {v : V} {r : List (List Int)} (k : Kt H H') (h : Po H v r) : Po H' v r := by
  obtain ⟨q, xs, e, f, g⟩ := h
  exact ⟨q, xs, e, k _ _ f, g.kt k⟩
theorem RoA.nil (H : Hp) : RoA H [] [] := ⟨rfl, fun i v e => by simp at e⟩
theorem RoA.snoc {H : Hp} {xs : List V} {rs : List (List Int)} {v : V} {r : List Int} (h : RoA H xs rs) (g : Ro H v r) : RoA H (xs ++ [v]) (rs ++ [r]) := by
  obtain ⟨h1, h2⟩ := h
  refine ⟨by simp [h1], fun i u e => ?_⟩
  rcases Nat.lt_trichotomy i xs.length with c | c | c
  · rw [List.getElem?_append_left c] at e
    obtain ⟨r', e1, e2⟩ := h2 i u e
    exact ⟨r', by rw [List.getElem?_append_left (by omega)]; exact e1, e2⟩
  · subst c
    rw [List.getElem?_append_right (Nat.le_refl _), Nat.sub_self] at e
    cases e
    refine ⟨r, ?_, g⟩
    rw [h1, List.getElem?_append_right (Nat.le_refl _), Nat.sub_self]
    rfl
  · rw [List.getElem?_eq_none (by simp; omega)] at e
    cases e
theorem RoA.take {H : Hp} {xs : List V} {rs : List (List Int)} (k : Nat) (h : RoA H xs rs) : RoA H (xs.take k) (rs.take k) := by
  refine ⟨by rw [List.length_take, List.length_take, h.1], fun i v e => ?_⟩
  rw [List.getElem?_take] at e ⊢
  split at e
  · rw [if_pos ‹_›]; exact h.2 i v e
  · cases e
theorem RoA.set {H : Hp} {xs : List V} {rs : List (List Int)} {v : V} {r : List Int} (k : Nat) (h : RoA H xs rs) (g : Ro H v r) : RoA H (xs.set k v) (rs.set k r) := by
  refine ⟨by rw [List.length_set, List.length_set, h.1], fun i u e => ?_⟩
  rw [List.getElem?_set] at e ⊢
  rw [← h.1]
  split at e
  · rw [if_pos ‹_›]
    split at e
    · rw [if_pos ‹_›]; cases e; exact ⟨r, rfl, g⟩
    · cases e
  · rw [if_neg ‹_›]; exact h.2 i u e
theorem RoA.get {H : Hp} {xs : List V} {rs : List (List Int)} {k : Nat} (h : RoA H xs rs) (hk : k < rs.length) : ∃ v, xs[k]? = some v ∧ Ro H v rs[k] := by
  have hx : k < xs.length := by rw [h.1]; exact hk
  obtain ⟨r, e1, e2⟩ := h.2 k xs[k] (List.getElem?_eq_getElem hx)
  rw [List.getElem?_eq_getElem hk] at e1
  cases e1
  exact ⟨_, List.getElem?_eq_getElem hx, e2⟩
/-! as data -/
def rowD (ns : List Int) : PyData := .tuple (ns.map PyData.int)
def polyD (p : List (List Int)) : PyData := .tuple (p.map rowD)
theorem da_ints (a : Addr) (H : Hp) : ∀ ns : List Int, DaAll a H (ns.map V.int) (ns.map PyData.int)
  | [] => .nil
  | n :: ns => .cons (.int n) (da_ints a H ns)
theorem We.nt {a p : Addr} {H : Hp} {xs : List V} (w : We a H) (h : H p = some (.tup xs)) : p ≠ a := fun z => by
  obtain ⟨x, y, c, e⟩ := w
  rw [z, e] at h; cases h
theorem da_row {a : Addr} {H : Hp} {v : V} {r : List Int} (w : We a H) (h : Ro H v r) : Da a H v (rowD r) := by
  obtain ⟨p, rfl, e⟩ := h
  exact .tup (We.nt w e) e (da_ints a H r)
theorem das_rows {a : Addr} {H : Hp} (w : We a H) : ∀ {xs : List V} {rs : List (List Int)}, RoA H xs rs → DaAll a H xs (rs.map rowD)
  | [], [], _ => .nil
  | [], r :: rs, h => by have := h.1; simp at this
  | x :: xs, [], h => by have := h.1; simp at this
  | x :: xs, r :: rs, h => by
    obtain ⟨r', e1, e2⟩ := h.2 0 x rfl
    cases e1
    refine .cons (da_row w e2) (das_rows w ⟨by have := h.1; simpa using this, fun i v e => ?_⟩)
    obtain ⟨r', e1, e2⟩ := h.2 (i + 1) v (by simpa using e)
    exact ⟨r', by simpa using e1, e2⟩
theorem da_poly {a : Addr} {H : Hp} {v : V} {p : List (List Int)} (w : We a H) (h : Po H v p) : Da a H v (polyD p) := by
  obtain ⟨q, xs, rfl, e, g⟩ := h
  exact .tup (We.nt w e) e (das_rows w g)
theorem nice_row (ns : List Int) : Nice 1 (rowD ns) := nice_tup fun d hd => by
  obtain ⟨i, _, rfl⟩ := List.mem_map.mp hd
  exact nice_int i
theorem nice_poly (p : List (List Int)) : Nice 2 (polyD p) := nice_tup fun d hd => by
  obtain ⟨i, _, rfl⟩ := List.mem_map.mp hd
  exact nice_row i
theorem rowB_ok {r : List Int} (h : okR r) : rowB (rowD r) = true := by
  unfold rowD rowB
  rw [Bool.and_eq_true]
  refine ⟨List.all_eq_true.mpr fun b hb => ?_, ?_⟩
  · rw [List.map_map] at hb
    obtain ⟨i, _, rfl⟩ := List.mem_map.mp hb
    rfl
  · unfold lastD
    rw [List.getLast?_map]
    cases e : r.getLast? with
    | none => rfl
    | some c => simpa [PyData.eqv] using h c e
theorem polyB_ok {p : List (List Int)} (h : okP p) : polyB (polyD p) = true := by
  unfold polyD polyB
  rw [Bool.and_eq_true]
  refine ⟨List.all_eq_true.mpr fun b hb => ?_, ?_⟩
  · rw [List.map_map] at hb
    obtain ⟨r, hr, rfl⟩ := List.mem_map.mp hb
    exact rowB_ok (h.1 r hr)
  · unfold lastD
    rw [List.getLast?_map]
    cases e : p.getLast? with
    | none => rfl
    | some r =>
      have := h.2 r e
      cases r with
      | nil => exact absurd rfl this
      | cons _ _ => simp [rowD, PyData.eqv, PyData.eqvAll]
theorem sm_row {n : Nat} {r : List Int} (h : r.length ≤ n) : Sm 1 n (rowD r) := sm_tup (by rw [List.length_map]; exact h) fun d hd => by
  obtain ⟨i, _, rfl⟩ := List.mem_map.mp hd
  exact sm_int _ _ i
theorem sm_poly {n b : Nat} {p : List (List Int)} (h : Bd n b p) : Sm 2 n (polyD p) := sm_tup (by rw [List.length_map]; exact h.1) fun d hd => by
  obtain ⟨r, hr, rfl⟩ := List.mem_map.mp hd
  exact sm_row (h.2 r hr).1
end K03

set_option Elab.async false
set_option linter.all false
set_option maxRecDepth 100000
set_option maxHeartbeats 4000000
local macro_rules | `(tactic| walk_at "rd") => `(tactic| dsimp only [Evl.tCut, L2.tSeq, L2.tNext, L2.tRet, L2.tRetN, L2.tAsg, L2.gName, L2.tIfS, L2.tDrop, L2.tCons, L2.tNil, L2.tC, L2.tVar, L2.tCB, L2.tAndV, L2.tOrV, L2.tNotV, L2.tB, L2.tTest, L2.tOp, L2.tUn, L2.tNot, L2.tAnd, L2.tOr, L2.tIf, L2.tCall, L2.tTup, L2.tLst, L2.tNotT, L2.tYes, L2.gTup, L2.gCons, L2.gNil, L2.gSub, L2.tBM0, L2.tBM, L2.tWhile, L2.tFor, L2.iRng1, L2.iRng2, L2.tAugS, Tw.iEnumT, L2.tCKw, L2.tAug, L2.ipI, RT.iRevA, L2.tPar, L2.tPar3, L2.tSl, L2.tNoPart, L2.tPart, Tw.tRevT])
namespace K03
open PySem PySem.Spec PyProof.Rows L2 Tw
/-! lists of values that stand for things -/
section
variable {α β : Type}
def RelA (R : Hp → V → α → Prop) (H : Hp) (xs : List V) (rs : List α) : Prop := xs.length = rs.length ∧ ∀ (i : Nat) v, xs[i]? = some v → ∃ r, rs[i]? = some r ∧ R H v r
def Stable (R : Hp → V → α → Prop) : Prop := ∀ H H' v r, Kt H H' → R H v r → R H' v r
theorem RelA.kt {R : Hp → V → α → Prop} (st : Stable R) {H H' : Hp} {xs : List V} {rs : List α} (k : Kt H H') (h : RelA R H xs rs) : RelA R H' xs rs :=
  ⟨h.1, fun i v e => let ⟨r, e1, e2⟩ := h.2 i v e; ⟨r, e1, st _ _ _ _ k e2⟩⟩
theorem RelA.snoc {R : Hp → V → α → Prop} {H : Hp} {xs : List V} {rs : List α} {v : V} {r : α} (h : RelA R H xs rs) (g : R H v r) : RelA R H (xs ++ [v]) (rs ++ [r]) := by
  obtain ⟨h1, h2⟩ := h
  refine ⟨by simp [h1], fun i u e => ?_⟩
  rcases Nat.lt_trichotomy i xs.length with c | c | c
  · rw [List.getElem?_append_left c] at e
    obtain ⟨r', e1, e2⟩ := h2 i u e
    exact ⟨r', by rw [List.getElem?_append_left (by omega)]; exact e1, e2⟩
  · subst c
    rw [List.getElem?_append_right (Nat.le_refl _), Nat.sub_self] at e
    cases e
    refine ⟨r, ?_, g⟩
    rw [h1, List.getElem?_append_right (Nat.le_refl _), Nat.sub_self]
    rfl
  · rw [List.getElem?_eq_none (by simp; omega)] at e
    cases e
theorem RelA.eq_map {f : α → V} {H : Hp} : ∀ {xs : List V} {rs : List α}, RelA (fun _ v r => v = f r) H xs rs → xs = rs.map f
  | [], [], _ => rfl
  | [], r :: rs, h => by have := h.1; simp at this
  | x :: xs, [], h => by have := h.1; simp at this
  | x :: xs, r :: rs, h => by
    obtain ⟨r', e1, e2⟩ := h.2 0 x rfl
    cases e1
    rw [List.map_cons, e2, RelA.eq_map (rs := rs) (xs := xs) (H := H) ⟨by have := h.1; simpa using this, fun i v e => by
      obtain ⟨r', e1, e2⟩ := h.2 (i + 1) v (by simpa using e)
      exact ⟨r', by simpa using e1, e2⟩⟩]
theorem RelA.of_map {f : α → V} {H : Hp} (rs : List α) : RelA (fun _ v r => v = f r) H (rs.map f) rs := ⟨by simp, fun i v e => by
  rw [List.getElem?_map] at e
  cases er : rs[i]? with
  | none => rw [er] at e; cases e
  | some r => rw [er] at e; cases e; exact ⟨r, rfl, rfl⟩⟩
theorem RelA.map {R : Hp → V → α → Prop} {H : Hp} {xs : List V} {rs : List α} (g : α → β) (S : Hp → V → β → Prop) (k : ∀ v r, r ∈ rs → R H v r → S H v (g r)) (h : RelA R H xs rs) : RelA S H xs (rs.map g) :=
  ⟨by rw [List.length_map]; exact h.1, fun i v e => by
    obtain ⟨r, e1, e2⟩ := h.2 i v e
    exact ⟨g r, by rw [List.getElem?_map, e1]; rfl, k v r (List.mem_of_getElem? e1) e2⟩⟩
theorem stable_eq (f : α → V) : Stable (fun _ v r => v = f r) := fun _ _ _ _ _ h => h
theorem stable_ro : Stable Ro := fun _ _ _ _ k h => h.kt k
variable {K : PySem.W.Frag} {te : TE} {i j : Nat} {elt : TE} {vs : List Nat} {σ : L2.St} {H : Hp} {Q : VK} {p : Addr} {xs : List V} {rs : List α} {S : Hp → V → α → Prop} {R : Hp → V → β → Prop} {g : α → β}
theorem rel_step {H1 H2 : Hp} {D : Addr} {m : Nat} {ys : List V} {y : V} {r : α} (sR : Stable R) (nD : H D = none) (hD : H1 D = some (.lst ys)) (s1 : Same H H1) (s2 : Same H1 H2) (er : rs[m]? = some r) (hr : RelA R H1 ys ((rs.take m).map g)) (hy : R H2 y (g r)) :
    H2 D = some (.lst ys) ∧ ys.length = m ∧ Same H (upd H2 D (.lst (ys ++ [y]))) ∧ upd H2 D (.lst (ys ++ [y])) D = some (.lst (ys ++ [y])) ∧ RelA R (upd H2 D (.lst (ys ++ [y]))) (ys ++ [y]) ((rs.take (m + 1)).map g) := by
  have e2 : H2 D = some (.lst ys) := s2 _ _ hD
  have hm : m < rs.length := (List.getElem?_eq_some_iff.mp er).1
  refine ⟨e2, ?_, same_upd (s1.trans s2) nD, upd_same, ?_⟩
  · rw [hr.1, List.length_map, List.length_take]; omega
  · rw [List.take_add_one, er, List.map_append]
    exact ((hr.kt sR (Kt.of s2)).snoc hy).kt sR (kt_upd e2)
/-- [.. for x in t], t a tuple of things -/
theorem lc_relT (sS : Stable S) (sR : Stable R) (hv : σ[i]? = some (some (.ref p))) (ht : H p = some (.tup xs)) (hd : RelA S H xs rs) (hn : rs.length < 100000)
    (hw : ∀ x, wipe ((wipe σ vs).set j (some x)) vs = wipe σ vs)
    (he : ∀ x r H1, r ∈ rs → Same H H1 → S H1 x r → ∀ Z : VK, (∀ y H2, Same H1 H2 → R H2 y (g r) → Z y H2) → elt ((wipe σ vs).set j (some x)) H1 Z)
    (q : ∀ D ys H', Same H H' → H D = none → H' D = some (.lst ys) → RelA R H' ys (rs.map g) → Q (.ref D) H') : tLc (iTup K (tVar i)) (gName j) tYes elt vs σ H Q := by
  refine ⟨.ref p, hv, p, rfl, ⟨xs, SqT.of ht⟩, fun D hD => ?_⟩
  refine lc_tup (xs := xs) (fun m H' => Same H H' ∧ ∃ ys, H' D = some (.lst ys) ∧ RelA R H' ys ((rs.take m).map g)) ⟨same_new hD, [], upd_same, rfl, fun i v e => by simp at e⟩ (fun m H' _ h => SqT.of (h.1 _ _ ht)) (fun m x H1 hx h => ?_) (fun H' h => ?_)
  · obtain ⟨h1, ys, h2, h3⟩ := h
    obtain ⟨r, e1, e2⟩ := hd.2 m x hx
    have hm : m < xs.length := (List.getElem?_eq_some_iff.mp hx).1
    have hx2 := hd.1
    refine ⟨hw x, ?_⟩
    unfold tYes
    simp only [if_true]
    refine he x r H1 (List.mem_of_getElem? e1) h1 (sS _ _ _ _ (Kt.of h1) e2) _ fun y H2 s2 ry => ?_
    obtain ⟨a1, a2, a3, a4, a5⟩ := rel_step sR hD h2 h1 s2 e1 h3 ry
    exact ⟨ys, a1, lt_line (by omega), a3, _, a4, a5⟩
  · obtain ⟨h1, ys, h2, h3⟩ := h
    rw [hd.1, List.take_length] at h3
    exact q D ys H' h1 hD h2 h3
/-- .. t a list -/
theorem lc_relL (sS : Stable S) (sR : Stable R) (hv : σ[i]? = some (some (.ref p))) (ht : H p = some (.lst xs)) (hd : RelA S H xs rs) (hn : rs.length < 100000)
    (hw : ∀ x, wipe ((wipe σ vs).set j (some x)) vs = wipe σ vs)
    (he : ∀ x r H1, r ∈ rs → Same H H1 → S H1 x r → ∀ Z : VK, (∀ y H2, Same H1 H2 → R H2 y (g r) → Z y H2) → elt ((wipe σ vs).set j (some x)) H1 Z)
    (q : ∀ D ys H', Same H H' → H D = none → H' D = some (.lst ys) → RelA R H' ys (rs.map g) → Q (.ref D) H') : tLc (iList K (tVar i)) (gName j) tYes elt vs σ H Q := by
  refine ⟨.ref p, hv, p, rfl, ⟨xs, SqL.of ht⟩, fun D hD => ?_⟩
  refine lc_list (xs := xs) (fun m H' => Same H H' ∧ ∃ ys, H' D = some (.lst ys) ∧ RelA R H' ys ((rs.take m).map g)) ⟨same_new hD, [], upd_same, rfl, fun i v e => by simp at e⟩ (fun m H' _ h => SqL.of (h.1 _ _ ht)) (fun m x H1 hx h => ?_) (fun H' h => ?_)
  · obtain ⟨h1, ys, h2, h3⟩ := h
    obtain ⟨r, e1, e2⟩ := hd.2 m x hx
    have hm : m < xs.length := (List.getElem?_eq_some_iff.mp hx).1
    have hx2 := hd.1
    refine ⟨hw x, ?_⟩
    unfold tYes
    simp only [if_true]
    refine he x r H1 (List.mem_of_getElem? e1) h1 (sS _ _ _ _ (Kt.of h1) e2) _ fun y H2 s2 ry => ?_
    obtain ⟨a1, a2, a3, a4, a5⟩ := rel_step sR hD h2 h1 s2 e1 h3 ry
    exact ⟨ys, a1, lt_line (by omega), a3, _, a4, a5⟩
  · obtain ⟨h1, ys, h2, h3⟩ := h
    rw [hd.1, List.take_length] at h3
    exact q D ys H' h1 hD h2 h3
end
/-- a fraction in memory -/
def Pr (H : Hp) (v : V) (a b : Int) : Prop := ∃ p, v = .ref p ∧ H p = some (.tup [.int a, .int b])
theorem Pr.kt {H H' : Hp} {v : V} {a b : Int} (k : Kt H H') (h : Pr H v a b) : Pr H' v a b := by
  obtain ⟨p, e, f⟩ := h
  exact ⟨p, e, k _ _ f⟩
theorem Pr.ix0 {K : PySem.W.Frag} {H : Hp} {v : V} {a b : Int} {Q : VK} (h : Pr H v a b) (q : Q (.int a) H) : rIxT K v (.int 0) H Q := by
  obtain ⟨p, rfl, f⟩ := h
  exact ⟨p, _, 0, .int a, rfl, rfl, SqT.of f, rfl, q⟩
theorem Pr.ix1 {K : PySem.W.Frag} {H : Hp} {v : V} {a b : Int} {Q : VK} (h : Pr H v a b) (q : Q (.int b) H) : rIxT K v (.int 1) H Q := by
  obtain ⟨p, rfl, f⟩ := h
  exact ⟨p, _, 1, .int b, rfl, rfl, SqT.of f, rfl, q⟩
def spCommon : Sp := fun vs H Q _ => ∃ i j : Int, vs = [.int i, .int j] ∧ ∀ H', Same H H' → Q (.int (Nat.gcd i.natAbs j.natAbs : Nat)) H'
def spLean : Sp := fun vs H Q _ => ∃ i j : Int, vs = [.int i, .int j] ∧ 0 < j ∧ j < 1073741824 ∧ ∀ v a b H', Same H H' → Pr H' v a b → Lo a b i j → Q v H'
section
variable {P : Program} {w : World} {K : PySem.W.Frag} {mg : Str → Option Value} {base : Heap}
theorem gcd_turn {f r : Nat} : Nat.gcd r (f % r) = Nat.gcd f r := by
  rw [Nat.gcd_comm f r, Nat.gcd_rec r f, Nat.gcd_comm]
theorem scCommon : FnScope ["_law_one", "_law_two", "_law_far", "_law_rest_here"] ["_law_one", "_law_two"] (defScope sCommon) := ⟨rfl, rfl, rfl, by decide +kernel, rfl, by decide +kernel, by decide +kernel⟩
theorem ok_common (D : Def K mg "_law_common" sCommon ["_law_one", "_law_two"]) (nb : Nb mg) : Cal P w K mg base "_law_common" 1 ["_law_one", "_law_two"] spCommon := by
  refine D.ok scCommon (fun vs H Q E h => ?_) (fun f cdv A out s H vs Q E hr h => ?_)
  · obtain ⟨i, j, rfl, _⟩ := h; rfl
  obtain ⟨i, j, rfl, q⟩ := h
  refine ⟨_, pss_cons (ps_par (i := 2) (j := 3) rfl scCommon.nd rfl rfl (by decide) rfl rfl (pa_cons (pe_callB (id := "abs") call_abs (by rfl) nb.abs (by decide +kernel) (pa_cons (pv 0) pa_nil)) (pa_cons (pe_callB (id := "abs") call_abs (by rfl) nb.abs (by decide +kernel) (pa_cons (pv 1) pa_nil)) pa_nil)) rfl)
    (pss_cons (ps_while PassesOwn.never (pt_cmpR op_ne (pv 3) pe_int (nomark _))
      (pss_one (ps_par (i := 2) (j := 3) rfl scCommon.nd rfl rfl (by decide) rfl rfl (pa_cons (pv 3) (pa_cons (pe_op op_mod (pe_callTy (T := "int") call_int1 (by rfl) nb.int (by decide +kernel) (pa_cons (pv 2) pa_nil)) (pv 3)) pa_nil)) rfl)))
    (pss_one (ps_ret (pv 2)))), ?_⟩
  walk_at "rd"
  refine ⟨.int i, rfl, i, rfl, .int j, rfl, j, rfl, _, _, rfl, ?_⟩
  have ei : (if i < 0 then -i else i) = (i.natAbs : Int) := by split <;> omega
  have ej : (if j < 0 then -j else j) = (j.natAbs : Int) := by split <;> omega
  refine ⟨fun m σ H' => ∃ f r : Nat, m = r ∧ σ = [some (.int i), some (.int j), some (.int (f : Int)), some (.int (r : Int))] ∧ Same H H' ∧ Nat.gcd f r = Nat.gcd i.natAbs j.natAbs, ⟨j.natAbs, i.natAbs, j.natAbs, rfl, by rw [ei, ej]; rfl, Same.refl H, rfl⟩, ?_⟩
  rintro m σ H1 ⟨f, r, rfl, rfl, s1, g⟩
  refine ⟨.int m, rfl, rfl, _, rfl, ?_⟩
  rw [dec_int]
  by_cases c : m = 0
  · subst c
    refine iteF ⟨_, rfl, ?_⟩
    rw [Nat.gcd_zero_right] at g
    rw [g]
    exact q _ s1
  · rw [show ((m : Int) == 0) = false from beq_eq_false_iff_ne.mpr (by omega)]
    refine iteT ⟨fun σ' H' => ∃ m' f : Nat, m' < m ∧ σ' = [some (.int i), some (.int j), some (.int (f : Int)), some (.int (m' : Int))] ∧ Same H H' ∧ Nat.gcd f m' = Nat.gcd i.natAbs j.natAbs, fun σ' H' ⟨m', f', a1, a2, a3, a4⟩ => ⟨m', a1, f', m', rfl, a2, a3, a4⟩, ?_⟩
    refine ⟨.int m, rfl, .int f, rfl, .inl ⟨f, rfl, .int m, rfl, f, m, rfl, rfl, by show (0 : Int) < _; omega, _, _, rfl, ?_⟩⟩
    exact ⟨f % m, m, Nat.mod_lt _ (by omega), rfl, s1, by rw [gcd_turn]; exact g⟩

theorem scLean : FnScope ["_law_top", "_law_base", "_law_far"] ["_law_top", "_law_base"] (defScope sLean) := ⟨rfl, rfl, rfl, by decide +kernel, rfl, by decide +kernel, by decide +kernel⟩
theorem ok_lean (D : Def K mg "_law_lean" sLean ["_law_top", "_law_base"]) (c1 : Cal P w K mg base "_law_common" 1 ["_law_one", "_law_two"] spCommon) : Cal P w K mg base "_law_lean" 2 ["_law_top", "_law_base"] spLean := by
  refine D.ok scLean (fun vs H Q E h => ?_) (fun f cdv A out s H vs Q E hr h => ?_)
  · obtain ⟨i, j, rfl, _⟩ := h; rfl
  obtain ⟨i, j, rfl, j0, j1, q⟩ := h
  refine ⟨_, pss_cons (ps_set (i := 2) scLean.nd rfl (Or.inl rfl) (pe_ifExp (pt_cmpR op_gt (pv 1) pe_int (nomark _)) (pe_cal c1 hr (Nat.le_refl 1) (by rfl) (pa_cons (pv 0) (pa_cons (pv 1) pa_nil)))
      (pe_op op_sub pe_int (pe_cal c1 hr (Nat.le_refl 1) (by rfl) (pa_cons (pv 0) (pa_cons (pv 1) pa_nil))))))
    (pss_one (ps_ret (pe_tup (pa_cons (pe_op op_fdiv (pv 0) (pv 2)) (pa_cons (pe_op op_fdiv (pv 1) (pv 2)) pa_nil))))), ?_⟩
  walk_at "rd"
  refine ⟨.int j, rfl, j, 0, rfl, rfl, _, rfl, ite2 (fun c => ?_) (fun c => absurd (decide_eq_true j0) c)⟩
  refine ⟨.int i, rfl, .int j, rfl, i, j, rfl, fun H1 s1 => ?_⟩
  have g0 : 0 < Nat.gcd i.natAbs j.natAbs := Nat.gcd_pos_of_pos_right _ (by omega)
  have g1 : Nat.gcd i.natAbs j.natAbs ≤ j.natAbs := Nat.gcd_le_right _ (by omega)
  refine ⟨.int i, rfl, _, rfl, i, _, rfl, rfl, ⟨by omega, by omega⟩, .int j, rfl, _, rfl, j, _, rfl, rfl, ⟨by omega, by omega⟩, sz (by simp), fun t nt => ?_⟩
  exact q _ _ _ _ (s1.trans (same_new nt)) ⟨t, rfl, upd_same⟩ (lo_lean j0)
end
/-- a new well -/
def spWell (K : PySem.W.Frag) : Sp := fun vs H Q _ => ∃ (p : Addr) (ns : List Int) (k : Int), vs = [.ref p, .int k] ∧ SqL K H p (ns.map V.int) ∧ ns.length ≤ 63 ∧ 0 ≤ k ∧ ∀ a H', Same H H' → H a = none → We a H' → Q (.ref a) H'
def spLaw (K : PySem.W.Frag) : Sp := fun vs H Q _ => ∃ (p : Addr) (ns : List Int), vs = [.ref p] ∧ SqL K H p (ns.map V.int) ∧ ns.length ≤ 63 ∧ ∀ H', Q (.bl true) H'
section
variable {P : Program} {w : World} {K : PySem.W.Frag} {mg : Str → Option Value} {base : Heap}
theorem scWell : FnScope ["_law_script", "_law_at", "_law_mixed", "_law_cell", "_law_own_here"] ["_law_script", "_law_at"] (defScope sWell) := ⟨rfl, rfl, rfl, by decide +kernel, rfl, by decide +kernel, by decide +kernel⟩
theorem ok_well (D : Def K mg "_law_well" sWell ["_law_script", "_law_at"]) (nb : Nb mg) : Cal P w K mg base "_law_well" 1 ["_law_script", "_law_at"] (spWell K) := by
  refine D.ok scWell (fun vs H Q E h => ?_) (fun f cdv A out s H vs Q E hr h => ?_)
  · obtain ⟨p, ns, k, rfl, _⟩ := h; rfl
  obtain ⟨p, ns, k, rfl, hp, hl, k0, q⟩ := h
  refine ⟨_, pss_cons (ps_set (i := 2) scWell.nd rfl (Or.inl rfl) (pe_op op_add pe_int (pe_op op_mul pe_int (pv 1))))
    (pss_cons (ps_for PassesOwn.never rfl (pi_list (pe_slice sl_list (pv 0) po_none (po_some pe_int))) (pg_name (i := 3) scWell.nd rfl (Or.inl rfl))
        (pss_one (ps_set (i := 2) scWell.nd rfl (Or.inl rfl) (pe_op op_mod (pe_callTy (T := "int") call_int1 (by rfl) nb.int (by decide +kernel)
          (pa_cons (pe_op op_add (pe_op op_add (pe_op op_mul (pv 2) pe_int) (pe_op op_mod (pe_callTy (T := "int") call_int1 (by rfl) nb.int (by decide +kernel) (pa_cons (pv 3) pa_nil)) pe_int)) pe_int) pa_nil)) pe_int))))
    (Evl.pss_cut (ps_set (i := 4) scWell.nd rfl (Or.inl rfl) (pe_ifExp (pt_cmpR op_lt (pv 1) (pe_callB (id := "len") call_len_seq (by rfl) nb.len PySem.boot_len (pa_cons (pv 0) pa_nil)) (nomark _))
        (pe_callTy (T := "int") call_int1 (by rfl) nb.int (by decide +kernel) (pa_cons (pe_ix ix_list (pv 0) (pv 1) (fun _ _ => rfl)) pa_nil)) pe_int))
    (pss_cons (ps_set (i := 2) scWell.nd rfl (Or.inl rfl) (pe_op op_mod (pe_callTy (T := "int") call_int1 (by rfl) nb.int (by decide +kernel)
        (pa_cons (pe_op op_add (pe_op op_add (pe_op op_mul (pv 2) pe_int) (pe_op op_mul (pe_op op_mod (pe_callTy (T := "int") call_int1 (by rfl) nb.int (by decide +kernel) (pa_cons (pv 4) pa_nil)) pe_int) pe_int)) pe_int) pa_nil)) pe_int))
    (pss_one (ps_ret (pe_lst (pa_cons (pe_ifExp (PW.pt (pw_or (pt_cmpR op_lt (pv 4) pe_int (nomark _)) (pw_or1 (pt_cmpR op_ge (pv 4) (pe_op op_pow pe_int pe_int) (nomark _)))))
        (pe_callB (id := "abs") call_abs (by rfl) nb.abs (by decide +kernel) (pa_cons (pv 4) pa_nil)) pe_int) (pa_cons (pv 2) (pa_cons pe_int pa_nil))))))))), ?_⟩
  walk_at "rd"
  refine ⟨.int k, rfl, _, _, rfl, rfl, .inl ⟨by decide, by decide⟩, _, _, rfl, rfl, .ref p, rfl, 9, rfl, p, _, rfl, hp, fun c nc => ?_⟩
  have s1 := same_new (o := .lst (L2.cutV (ns.map V.int) none (some 9))) nc
  have hc : upd H c (.lst (L2.cutV (ns.map V.int) none (some 9))) c = some (.lst (L2.cutV (ns.map V.int) none (some 9))) := upd_same
  generalize upd H c _ = H1 at s1 hc ⊢
  have hp1 : SqL K H1 p (ns.map V.int) := s1.seq hp
  refine ⟨c, rfl, ⟨_, SqL.of hc⟩, for_lst (xs := L2.cutV (ns.map V.int) none (some 9)) (fun i σ H' => ∃ (mx : Int) (x3 : Option V), σ = [some (.ref p), some (.int k), some (.int mx), x3, none] ∧ H' = H1) ⟨_, none, rfl, rfl⟩ (fun i σ' H' _ h => ?_) (fun i x σ' H' hx h => ?_) (fun σ' H' h => ?_)⟩
  · obtain ⟨mx, x3, rfl, rfl⟩ := h; exact SqL.of hc
  · obtain ⟨mx, x3, rfl, rfl⟩ := h
    obtain ⟨n, _, rfl⟩ : ∃ n, n ∈ ns ∧ V.int n = x := List.mem_map.mp (List.mem_of_mem_drop (List.mem_of_mem_take (List.mem_of_getElem? hx)))
    refine ⟨.int mx, rfl, _, _, rfl, rfl, .inr ⟨by decide, by decide⟩, .int n, rfl, .inl ⟨n, rfl, _, _, rfl, rfl, (by show (0 : Int) < _; decide), _, _, rfl, rfl, _, _, rfl, rfl, .inl ⟨_, rfl, _, _, rfl, rfl, (by show (0 : Int) < _; decide), ?_⟩⟩⟩
    exact ⟨_, some (.int n), rfl, rfl⟩
  · obtain ⟨mx, x3, rfl, rfl⟩ := h
    refine ⟨fun σ2 H2 => ∃ o : Int, σ2 = [some (.ref p), some (.int k), some (.int mx), x3, some (.int o)] ∧ H2 = H', ⟨.int k, rfl, .ref p, rfl, p, _, rfl, .inl hp1, _, _, rfl, rfl, _, rfl, ite2 (fun c1 => ?_) (fun c1 => ⟨0, rfl, rfl⟩)⟩, ?_⟩
    · have c1 := of_decide_eq_true c1
      rw [List.length_map] at c1
      obtain ⟨j, rfl⟩ := Int.eq_ofNat_of_zero_le k0
      have hj : j < ns.length := by omega
      refine ⟨.ref p, rfl, .int j, rfl, p, _, j, .int ns[j], rfl, rfl, hp1, atI_nat (by rw [List.getElem?_map, List.getElem?_eq_getElem hj]; rfl), .inl ⟨_, rfl, ns[j], rfl, rfl⟩⟩
    · rintro σ2 H2 ⟨o, rfl, rfl⟩
      refine ⟨.int mx, rfl, _, _, rfl, rfl, .inr ⟨by decide, by decide⟩, .int o, rfl, .inl ⟨o, rfl, _, _, rfl, rfl, (by show (0 : Int) < _; decide), _, _, rfl, rfl, .inr ⟨by decide, by decide⟩, _, _, rfl, rfl, _, _, rfl, rfl, .inl ⟨_, rfl, _, _, rfl, rfl, (by show (0 : Int) < _; decide), ?_⟩⟩⟩
      have fin : ∀ x y : Int, [V.int x, .int y, .int 0].length ≤ sizeLine ∧ ∀ a, H2 a = none → Q (.ref a) (upd H2 a (.lst [.int x, .int y, .int 0])) := fun x y => ⟨sz (by simp), fun a na => q a _ (s1.trans (same_new na)) (s1.free na) ⟨_, _, _, upd_same⟩⟩
      refine ⟨.int o, rfl, _, _, rfl, rfl, _, rfl, ite2 (fun c1 => ?_) (fun c1 => ?_)⟩
      · exact iteT ⟨.int o, rfl, o, rfl, _, rfl, fin _ _⟩
      · refine ⟨.int o, rfl, _, _, rfl, rfl, ⟨by decide, by decide, by decide⟩, _, _, rfl, rfl, _, rfl, ite2 (fun c2 => ?_) (fun c2 => ?_)⟩
        · exact ⟨.int o, rfl, o, rfl, _, rfl, fin _ _⟩
        · exact ⟨_, rfl, fin _ _⟩

end
end K03

set_option Elab.async false
set_option linter.all false
set_option maxRecDepth 100000
set_option maxHeartbeats 4000000
local macro_rules | `(tactic| walk_at "rd") => `(tactic| dsimp only [Evl.tCut, L2.tSeq, L2.tNext, L2.tRet, L2.tRetN, L2.tAsg, L2.gName, L2.tIfS, L2.tDrop, L2.tCons, L2.tNil, L2.tC, L2.tVar, L2.tCB, L2.tAndV, L2.tOrV, L2.tNotV, L2.tB, L2.tTest, L2.tOp, L2.tUn, L2.tNot, L2.tAnd, L2.tOr, L2.tIf, L2.tCall, L2.tTup, L2.tLst, L2.tNotT, L2.tYes, L2.gTup, L2.gCons, L2.gNil, L2.gSub, L2.tBM0, L2.tBM, L2.tWhile, L2.tFor, L2.iRng1, L2.iRng2, L2.tAugS, Tw.iEnumT, L2.tCKw, L2.tAug, L2.ipI, RT.iRevA, L2.tPar, L2.tPar3, L2.tSl, L2.tNoPart, L2.tPart, Tw.tRevT])
namespace K03

open PySem PySem.Spec PyProof.Rows L2 Tw
theorem lo_num' {a b N D : Int} (h : Lo a b N D) (d0 : 0 < D) : a.natAbs ≤ N.natAbs := lo_num h d0
def Sp2 (n m : Int) : Prop := n.natAbs ≤ 1000000 ∧ 0 < m ∧ m ≤ 7 ∧ Nat.gcd n.natAbs m.natAbs = 1
def spInt : Sp := fun vs H Q _ => ∃ a, vs = [.ref a] ∧ We a H ∧ ∀ (i : Int) H', i.natAbs ≤ 1000000 → Kp a H H' → We a H' → Q (.int i) H'
def spPart : Sp := fun vs H Q _ => ∃ a, vs = [.ref a] ∧ We a H ∧ ∀ v n m H', Kp a H H' → We a H' → Pr H' v n m → Sp2 n m → Q v H'
def spTrimI : Sp := fun vs H Q _ => ∃ p l, vs = [.ref p] ∧ (H p = some (.lst (l.map V.int)) ∨ H p = some (.tup (l.map V.int))) ∧ l.length ≤ 1000 ∧ ∀ v H', Same H H' → Ro H' v (trimI l) → Q v H'
def spRowM : Sp := fun vs H Q _ => ∃ a n, vs = [.ref a, .int n] ∧ We a H ∧ 0 ≤ n ∧ n ≤ 100 ∧ ∀ v ns H', Kp a H H' → We a H' → Ro H' v ns → okR ns → (ns.length : Int) ≤ n → (∀ c ∈ ns, c.natAbs ≤ 1000000) → Q v H'
section
variable {P : Program} {w : World} {K : PySem.W.Frag} {mg : Str → Option Value} {base : Heap}
theorem scSmall : FnScope ["_law_well_here", "_law_branch"] ["_law_well_here"] (defScope sSmall) := ⟨rfl, rfl, rfl, by decide +kernel, rfl, by decide +kernel, by decide +kernel⟩
theorem ok_small (D : Def K mg "_law_small" sSmall ["_law_well_here"]) (c1 : Cal P w K mg base "_law_draw" 1 ["_law_well_here", "_law_few"] spDraw) : Cal P w K mg base "_law_small" 2 ["_law_well_here"] spInt := by
  refine D.ok scSmall (fun vs H Q E h => ?_) (fun f cdv A out s H vs Q E hr h => ?_)
  · obtain ⟨a, rfl, _⟩ := h; rfl
  obtain ⟨a, rfl, hw, q⟩ := h
  refine ⟨_, pss_cons (ps_set (i := 1) scSmall.nd rfl (Or.inl rfl) (pe_cal c1 hr (by decide) (by rfl) (pa_cons (pv 0) (pa_cons pe_int pa_nil))))
    (pss_cons (ps_if (pt_cmpR op_lt (pv 1) pe_int (nomark _)) (pss_one (ps_ret (pe_op op_sub (pe_cal c1 hr (by decide) (by rfl) (pa_cons (pv 0) (pa_cons pe_int pa_nil))) pe_int))) pss_nil)
    (pss_one (ps_ret (pe_ifExp (pt_cmpR op_lt (pv 1) pe_int (nomark _)) (pe_op op_sub (pe_cal c1 hr (by decide) (by rfl) (pa_cons (pv 0) (pa_cons pe_int pa_nil))) pe_int)
      (pe_op op_sub (pe_cal c1 hr (by decide) (by rfl) (pa_cons (pv 0) (pa_cons pe_int pa_nil))) pe_int))))), ?_⟩
  walk_at "rd"
  refine ⟨.ref a, rfl, a, _, rfl, hw, by decide, by decide, fun d H1 d0 d1 k1 w1 => ?_⟩
  refine ⟨.int d, rfl, _, _, rfl, rfl, _, rfl, ite2 (fun c => ?_) (fun c => ?_)⟩
  · refine ⟨.ref a, rfl, a, _, rfl, w1, by decide, by decide, fun e H2 e0 e1 k2 w2 => ⟨e, _, rfl, rfl, q _ H2 (by omega) (k1.trans k2) w2⟩⟩
  · refine ⟨.int d, rfl, _, _, rfl, rfl, _, rfl, ite2 (fun c => ?_) (fun c => ?_)⟩
    · refine ⟨.ref a, rfl, a, _, rfl, w1, by decide, by decide, fun e H2 e0 e1 k2 w2 => ⟨e, _, rfl, rfl, q _ H2 (by omega) (k1.trans k2) w2⟩⟩
    · refine ⟨.ref a, rfl, a, _, rfl, w1, by decide, by decide, fun e H2 e0 e1 k2 w2 => ⟨e, _, rfl, rfl, q _ H2 (by omega) (k1.trans k2) w2⟩⟩
theorem scTrim : FnScope ["_law_some", "_law_found"] ["_law_some"] (defScope sTrim) := ⟨rfl, rfl, rfl, by decide +kernel, rfl, by decide +kernel, by decide +kernel⟩
theorem ok_trim (D : Def K mg "_law_trim" sTrim ["_law_some"]) (nb : Nb mg) : Cal P w K mg base "_law_trim" 1 ["_law_some"] spTrimI := by
  refine D.ok scTrim (fun vs H Q E h => ?_) (fun f cdv A out s H vs Q E hr h => ?_)
  · obtain ⟨p, l, rfl, _⟩ := h; rfl
  obtain ⟨p, l, rfl, hp, hl, q⟩ := h
  refine ⟨_, pss_cons (ps_set (i := 1) scTrim.nd rfl (Or.inl rfl) (pe_callTy (T := "list") call_list_of (by rfl) nb.lst (by decide +kernel) (pa_cons (pv 0) pa_nil)))
    (pss_cons (ps_while PassesOwn.never (PW.pt (pw_and (pt_cmpR (op_neD hr.units) (pv 1) (pe_lst pa_nil) (nomark _)) (pw_and1
        (pt_cmpR op_eq (pe_ix ix_list (pv 1) (pe_un un_neg pe_int) (fun _ _ => rfl)) pe_int (nomark _)))))
      (pss_one (ps_expr (pe_bm0 PySem.F.plainAttrs_list PySem.F.slot_list_pop PySem.F.type_list_pop mt_pop (pv 1)))))
    (pss_one (ps_ret (pe_callTy (T := "tuple") call_tuple_of (by rfl) nb.tup (by decide +kernel) (pa_cons (pv 1) pa_nil))))), ?_⟩
  walk_at "rd"
  have hp2 : SqL K H p (l.map V.int) ∨ SqT K H p (l.map V.int) := hp.elim (fun h => .inl (SqL.of h)) fun h => .inr (SqT.of h)
  refine ⟨.ref p, rfl, p, l.map V.int, rfl, hp2, fun L nL => ?_⟩
  have hz0 : ∀ (i : Nat) a, l.length ≤ i → l[i]? = some a → (a == 0) = true := fun i a hi ea => by
    rw [List.getElem?_eq_none hi] at ea
    cases ea
  refine ⟨fun m σ H' => m ≤ l.length ∧ (∀ (i : Nat) a, m ≤ i → l[i]? = some a → (a == 0) = true) ∧ σ = [some (.ref p), some (.ref L)] ∧ Same H H' ∧ H' L = some (.lst ((l.take m).map V.int)), ⟨l.length, Nat.le_refl _, hz0, rfl, same_new nL, by rw [upd_same, List.take_length]⟩, ?_⟩
  rintro m σ H1 ⟨hm, hz, rfl, s1, hL⟩
  refine ⟨.ref L, rfl, sz (by decide), fun t nt => ?_⟩
  have s2 := same_new (o := .lst []) nt
  have nd : ∀ ns : List Int, ∀ d ∈ ns.map PyData.int, Nice 0 d := fun ns d hd => by
    obtain ⟨i, _, rfl⟩ := List.mem_map.mp hd
    exact nice_int i
  refine ⟨.list ((l.take m).map PyData.int), .list [], .lst (SqL.of (s2 _ _ hL)) ((da_ints 0 _ _).dp (canAll fun d h => (nd _ d h).1)), .lst (SqL.of upd_same) .nil, (nice_lst (nd _)).shaped (by decide), by decide, _, rfl, ?_⟩
  cases m with
  | zero =>
    refine iteF ⟨.ref L, rfl, L, _, rfl, .inl ⟨SqL.of (s2 _ _ hL), fun t2 nt2 => ?_⟩⟩
    refine q _ _ ((s1.trans s2).trans (same_new nt2)) ⟨t2, rfl, ?_⟩
    rw [upd_same, show trimI l = l.take 0 from trimBy_take _ l 0 (Nat.zero_le _) hz (.inl rfl)]
  | succ j =>
    have hj : j < l.length := by omega
    have et : l.take (j + 1) = l.take j ++ [l[j]] := by rw [List.take_add_one, List.getElem?_eq_getElem hj]; rfl
    have ne : (!PyData.eqv (.list ((l.take (j + 1)).map PyData.int)) (.list [])) = true := by
      rw [et]
      cases l.take j <;> simp [PyData.eqv, PyData.eqvAll]
    rw [ne]
    refine iteT ⟨.ref L, rfl, 1, rfl, L, _, -1, .int l[j], rfl, rfl, SqL.of (s2 _ _ hL), ?_, rfl, _, rfl, ?_⟩
    · rw [et, List.map_append]
      exact atI_last _ _
    rw [dec_int]
    cases z : (l[j] == 0) with
    | false =>
      refine iteF ⟨.ref L, rfl, L, _, rfl, .inl ⟨SqL.of (s2 _ _ hL), fun t2 nt2 => ?_⟩⟩
      refine q _ _ ((s1.trans s2).trans (same_new nt2)) ⟨t2, rfl, ?_⟩
      rw [upd_same, show trimI l = l.take (j + 1) from trimBy_take _ l (j + 1) hm hz (.inr ⟨l[j], List.getElem?_eq_getElem hj, z⟩)]
    | true =>
      refine iteT ⟨fun σ' H' => σ' = [some (.ref p), some (.ref L)] ∧ Same H H' ∧ H' L = some (.lst ((l.take j).map V.int)), fun σ' H' h => ⟨j, by omega, by omega, fun i e hi he => by
        rcases Nat.lt_or_eq_of_le hi with y | y
        · exact hz i e y he
        · subst y; rw [List.getElem?_eq_getElem hj] at he; cases he; exact z, h.1, h.2.1, h.2.2⟩, .ref L, rfl, .inl ⟨rfl, _, SqL.of (s2 _ _ hL)⟩, ?_⟩
      refine ⟨L, (l.take (j + 1)).map V.int, .int l[j], rfl, rfl, s2 _ _ hL, ?_, rfl, same_upd (s1.trans s2) nL, ?_⟩
      · exact getLast_get (by rw [et, List.map_append, List.map_cons, List.map_nil, List.getLast?_concat])
      · rw [upd_same, et, List.map_append, List.map_cons, List.map_nil, List.dropLast_concat]
theorem scLine : FnScope ["_law_well_here", "_law_few", "_law_found", "_law_spot"] ["_law_well_here", "_law_few"] (defScope sLine) := ⟨rfl, rfl, rfl, by decide +kernel, rfl, by decide +kernel, by decide +kernel⟩
theorem ok_line (D : Def K mg "_law_line" sLine ["_law_well_here", "_law_few"]) (nb : Nb mg) (c1 : Cal P w K mg base "_law_draw" 1 ["_law_well_here", "_law_few"] spDraw)
    (c2 : Cal P w K mg base "_law_small" 2 ["_law_well_here"] spInt) (c3 : Cal P w K mg base "_law_trim" 1 ["_law_some"] spTrimI) : Cal P w K mg base "_law_line" 3 ["_law_well_here", "_law_few"] spRowM := by
  refine D.ok scLine (fun vs H Q E h => ?_) (fun f cdv A out s H vs Q E hr h => ?_)
  · obtain ⟨a, n, rfl, _⟩ := h; rfl
  obtain ⟨a, n, rfl, hw, n0, n1, q⟩ := h
  refine ⟨_, pss_cons (ps_set (i := 2) scLine.nd rfl (Or.inl rfl) (pe_lst pa_nil))
    (pss_cons (ps_for PassesOwn.never rfl (pi_range1 (by rfl) nb.rng (pa_cons (pe_cal c1 hr (by decide) (by rfl) (pa_cons (pv 0) (pa_cons (pe_op op_add (pv 1) pe_int) pa_nil))) pa_nil))
        (pg_name (i := 3) scLine.nd rfl (Or.inl rfl))
        (pss_one (ps_expr (pe_bm PySem.F.plainAttrs_list PySem.F.slot_list_append PySem.F.type_list_append mt_append (pv 2) (pa_cons (pe_cal c2 hr (by decide) (by rfl) (pa_cons (pv 0) pa_nil)) pa_nil)))))
    (pss_one (ps_ret (pe_cal c3 hr (by decide) (by rfl) (pa_cons (pv 2) pa_nil))))), ?_⟩
  walk_at "rd"
  refine ⟨sz (by decide), fun L nL => ?_⟩
  have La : L ≠ a := hw.ne nL
  have w0 := we_new (o := .lst []) hw nL
  have k0 : Kp a H (upd H L (.lst [])) := kp_new nL
  refine ⟨.ref a, rfl, .int n, rfl, n, 1, rfl, rfl, a, _, rfl, w0, by omega, by omega, fun d H1 d0 d1 k1 w1 => ?_⟩
  refine ⟨d, rfl, by omega, by omega, for_rng (lo := 0) (n := d.toNat) (fun i σ H' => ∃ (x3 : Option V) (ns : List Int), σ = [some (.ref a), some (.int n), some (.ref L), x3] ∧ Kp a H H' ∧ We a H' ∧ H' L = some (.lst (ns.map V.int)) ∧ ns.length = i ∧ ∀ c ∈ ns, c.natAbs ≤ 1000000) ?_ ?_ ?_⟩
  · exact ⟨none, [], rfl, k0.trans k1, w1, k1 _ _ La upd_same, rfl, fun c hc => by cases hc⟩
  · rintro i σ H2 hi ⟨x3, ns, rfl, k2, w2, e2, l2, b2⟩
    walk_at "rd"
    refine ⟨.ref L, rfl, .inl ⟨rfl, _, SqL.of e2⟩, .ref a, rfl, a, rfl, w2, fun j H3 jb k3 w3 => ⟨L, ns.map V.int, .int j, rfl, rfl, k3 _ _ La e2, ?_, ?_⟩⟩
    · rw [List.length_map]; exact lt_line (by omega)
    · have w4 : We a (upd H3 L (.lst (ns.map V.int ++ [.int j]))) := by obtain ⟨x, y, z, e⟩ := w3; exact ⟨x, y, z, by rw [upd_ne La.symm]; exact e⟩
      exact ⟨some (.int (0 + (i : Int))), ns ++ [j], rfl, kp_upd (k2.trans k3) nL, w4, by rw [upd_same, List.map_append]; rfl, by simp [l2], fun c hc => by
        rcases List.mem_append.mp hc with hc | hc
        · exact b2 c hc
        · rw [List.mem_singleton.mp hc]; exact jb⟩
  · rintro σ H2 ⟨x3, ns, rfl, k2, w2, e2, l2, b2⟩
    refine ⟨.ref L, rfl, L, ns, rfl, .inl e2, by omega, fun v H3 s3 r3 => q v (trimI ns) H3 (k2.trans (Kp.of s3)) (w2.to s3) r3 (okR_trim _) ?_ fun c hc => b2 c (trimBy_mem _ _ hc)⟩
    have : (trimI ns).length ≤ ns.length := trimBy_len _ ns
    omega
end
end K03

set_option Elab.async false
set_option linter.all false
set_option maxRecDepth 100000
set_option maxHeartbeats 4000000
local macro_rules | `(tactic| walk_at "rd") => `(tactic| dsimp only [Evl.tCut, L2.tSeq, L2.tNext, L2.tRet, L2.tRetN, L2.tAsg, L2.gName, L2.tIfS, L2.tDrop, L2.tCons, L2.tNil, L2.tC, L2.tVar, L2.tCB, L2.tAndV, L2.tOrV, L2.tNotV, L2.tB, L2.tTest, L2.tOp, L2.tUn, L2.tNot, L2.tAnd, L2.tOr, L2.tIf, L2.tCall, L2.tTup, L2.tLst, L2.tNotT, L2.tYes, L2.gTup, L2.gCons, L2.gNil, L2.gSub, L2.tBM0, L2.tBM, L2.tWhile, L2.tFor, L2.iRng1, L2.iRng2, L2.tAugS, Tw.iEnumT, L2.tCKw, L2.tAug, L2.ipI, RT.iRevA, L2.tPar, L2.tPar3, L2.tSl, L2.tNoPart, L2.tPart, Tw.tRevT])
namespace K03
open PySem PySem.Spec PyProof.Rows L2 Tw
theorem seqT {K : PySem.W.Frag} {H H' : Hp} {a : Addr} {xs : List V} (e : Same H H') (h : SqT K H a xs) : SqT K H' a xs := by
  rcases h with (h | ⟨o, h⟩) | h
  · exact .inl (.inl (e _ _ h))
  · exact .inl (.inr ⟨o, e _ _ h⟩)
  · exact .inr h
def rLn (K : PySem.W.Frag) : List V → Hp → VK → Prop := fun xs H Q => ∃ p ys, xs = [.ref p] ∧ (SqL K H p ys ∨ SqT K H p ys) ∧ Q (.int ys.length) H
theorem wipeJ (σ : L2.St) (j : Nat) (x : Option V) : wipe ((wipe σ [j]).set j x) [j] = wipe σ [j] := by
  show ((σ.set j none).set j x).set j none = σ.set j none
  rw [List.set_set, List.set_set]
def SB (b : Nat) (r : List Int) : Prop := ∀ c ∈ r, c.natAbs ≤ b
theorem sb_get {b : Nat} {r : List Int} (h : SB b r) (k : Nat) : (r.getD k 0).natAbs ≤ b := by
  rw [List.getD_eq_getElem?_getD]
  cases e : r[k]? with
  | none => simp
  | some x => exact h x (List.mem_of_getElem? e)
theorem sb_trim {b : Nat} {r : List Int} (h : SB b r) : SB b (trimI r) := fun c hc => h c (trimBy_mem _ _ hc)
theorem flat_one (k : Nat) (x : V) : (List.replicate k [x]).flatten = List.replicate k x := by
  induction k with
  | zero => rfl
  | succ k ih => rw [List.replicate_succ, List.flatten_cons, ih, List.replicate_succ]; rfl
theorem getD_map_range {α : Type} (f : Nat → α) (d : α) (n k : Nat) (z : n ≤ k → f k = d) : ((List.range n).map f).getD k d = f k := by
  rw [List.getD_eq_getElem?_getD]
  rcases Nat.lt_or_ge k n with c | c
  · rw [List.getElem?_eq_getElem (by rw [List.length_map, List.length_range]; exact c), List.getElem_map, List.getElem_range]
    rfl
  · rw [List.getElem?_eq_none (by rw [List.length_map, List.length_range]; exact c), z c]
    rfl
theorem map_set' (l : List Int) (k : Nat) (c : Int) : (l.map V.int).set k (V.int c) = (l.set k c).map V.int := by rw [List.map_set]
theorem g_map (c : Int) (r : List Int) (k : Nat) : g (r.map fun x => c * x) k = c * g r k := by
  rcases Nat.lt_or_ge k r.length with h | h
  · rw [g_some (by rw [List.length_map]; exact h), g_some h, List.getElem_map]
  · rw [g_none (by rw [List.length_map]; exact h), g_none h, Int.mul_zero]
/-- the last of a product -/
theorem cv_top {f h : Nat → Int} {n m : Nat} (zf : ∀ i, n < i → f i = 0) (zh : ∀ i, m < i → h i = 0) : cv f h (n + m) = f n * h m := by
  unfold cv
  have e : S (n + m + 1) (fun i => f i * h (n + m - i)) = S (n + 1) (fun i => f i * h (n + m - i)) := S_more (by omega) fun i hi => by rw [zf i (by omega), Int.zero_mul]
  rw [e, S, S_ext (h := fun _ => 0) n fun i hi => by rw [zh _ (by omega), Int.mul_zero], S_zero, Int.zero_add]
  congr 2
  omega
theorem okR_last {r : List Int} (h : okR r) (n : r ≠ []) : g r (r.length - 1) ≠ 0 := by
  have l : 0 < r.length := List.length_pos_iff.mpr n
  have e : r.getLast? = some r[r.length - 1] := by rw [List.getLast?_eq_getElem?, List.getElem?_eq_getElem (by omega)]
  rw [g_some (by omega)]
  exact h _ e
theorem okR_prod {a b l : List Int} (ha : okR a) (hb : okR b) (na : a ≠ []) (nb : b ≠ []) (ll : l.length = a.length + b.length - 1) (cl : ∀ k, g l k = cv (g b) (g a) k) : okR l := fun c hc => by
  have la : 0 < a.length := List.length_pos_iff.mpr na
  have lb : 0 < b.length := List.length_pos_iff.mpr nb
  rw [List.getLast?_eq_getElem?] at hc
  have e : g l (l.length - 1) = c := by
    unfold g
    rw [List.getD_eq_getElem?_getD, hc]
    rfl
  rw [cl, show l.length - 1 = (b.length - 1) + (a.length - 1) from by omega, cv_top (fun i hi => g_none (by omega)) (fun i hi => g_none (by omega))] at e
  rw [← e]
  exact Int.mul_ne_zero (okR_last hb nb) (okR_last ha na)
theorem g_app0 (r : List Int) (n k : Nat) : g (r ++ List.replicate n 0) k = g r k := by
  rcases Nat.lt_or_ge k r.length with c | c
  · unfold g
    rw [List.getD_eq_getElem?_getD, List.getD_eq_getElem?_getD, List.getElem?_append_left c]
  · rw [g_none c]
    unfold g
    rw [List.getD_eq_getElem?_getD, List.getElem?_append_right c, List.getElem?_replicate]
    split <;> rfl
/-- known by numbers alone how long it is -/
theorem len_of {t : List Int} {n : Nat} (h : okR t) (z : ∀ k, n ≤ k → g t k = 0) : t.length ≤ n := by
  rcases Nat.lt_or_ge n t.length with c | c
  · have ne : t ≠ [] := fun e => by rw [e] at c; simp at c
    exact absurd (z (t.length - 1) (by omega)) (okR_last h ne)
  · exact c
def CM (r s : List Int) : Prop := ∀ c ∈ r, ∀ d ∈ s, CMulX c d
theorem CM.get {r s : List Int} (h : CM r s) {i j : Nat} (hi : i < r.length) (hj : j < s.length) : CMulX r[i] s[j] := h _ (List.getElem_mem hi) _ (List.getElem_mem hj)
theorem CM.symm {r s : List Int} (h : CM r s) : CM s r := fun c hc d hd => by have := h d hd c hc; unfold CMulX at *; omega
def spLSum : Sp := fun vs H Q _ => ∃ u v r s, vs = [u, v] ∧ Ro H u r ∧ Ro H v s ∧ r.length ≤ 100 ∧ s.length ≤ 100 ∧ ∀ z t H', Same H H' → Ro H' z t → okR t → (∀ k, g t k = g r k + g s k) → Q z H'
def spLScaled : Sp := fun vs H Q _ => ∃ u r c, vs = [u, .int c] ∧ Ro H u r ∧ r.length ≤ 100 ∧ c.natAbs < 2 ^ 64 ∧ ∀ z t H', Same H H' → Ro H' z t → okR t → (∀ k, g t k = c * g r k) → Q z H'
def spProd : Sp := fun vs H Q _ => ∃ u v r s, vs = [u, v] ∧ Ro H u r ∧ Ro H v s ∧ r.length ≤ 100 ∧ s.length ≤ 100 ∧ CM r s ∧ ∀ z t H', Same H H' → Ro H' z t → okR t → (∀ k, g t k = cv (g r) (g s) k) → Q z H'
def spSlope : Sp := fun vs H Q _ => ∃ u r, vs = [u] ∧ Ro H u r ∧ okR r ∧ r.length ≤ 100 ∧ ∀ z t H', Same H H' → Ro H' z t → okR t → (∀ k, g t k = ((k + 1 : Nat) : Int) * g r (k + 1)) → Q z H'
section
variable {P : Program} {w : World} {K : PySem.W.Frag} {mg : Str → Option Value} {base : Heap}
theorem scSum : FnScope ["_law_one", "_law_two", "_law_few", "_law_far", "_law_rest_here", "_law_at"] ["_law_one", "_law_two"] (defScope sSum) := ⟨rfl, rfl, rfl, by decide +kernel, rfl, by decide +kernel, by decide +kernel⟩
theorem ok_sum (D : Def K mg "_law_sum" sSum ["_law_one", "_law_two"]) (nb : Nb mg) (c1 : Cal P w K mg base "_law_trim" 1 ["_law_some"] spTrimI) : Cal P w K mg base "_law_sum" 2 ["_law_one", "_law_two"] spLSum := by
  refine D.ok scSum (fun vs H Q E h => ?_) (fun f cdv A out s H vs Q E hr h => ?_)
  · obtain ⟨u, v, r, s, rfl, _⟩ := h; rfl
  obtain ⟨u, v, r, t, rfl, hu, hv, lr, lt, q⟩ := h
  refine ⟨_, pss_cons (ps_set (i := 2) scSum.nd rfl (Or.inl rfl) (pe_callB (id := "max") (call_max2 rfl) (by rfl) nb.max (by decide +kernel) (pa_cons (pe_callB (id := "len") (r := rLn K) call_len_seq (by rfl) nb.len PySem.boot_len (pa_cons (pv 0) pa_nil)) (pa_cons (pe_callB (id := "len") (r := rLn K) call_len_seq (by rfl) nb.len PySem.boot_len (pa_cons (pv 1) pa_nil)) pa_nil))))
    (pss_cons (ps_set (i := 3) scSum.nd rfl (Or.inr rfl) (pe_op op_cat (pe_callTy (T := "list") call_list_of (by rfl) nb.lst (by decide +kernel) (pa_cons (pv 0) pa_nil)) (pe_op op_rep (pe_lst (pa_cons pe_int pa_nil)) (pe_op op_sub (pv 2) (pe_callB (id := "len") (r := rLn K) call_len_seq (by rfl) nb.len PySem.boot_len (pa_cons (pv 0) pa_nil))))))
    (pss_cons (ps_set (i := 4) scSum.nd rfl (Or.inr rfl) (pe_op op_cat (pe_callTy (T := "list") call_list_of (by rfl) nb.lst (by decide +kernel) (pa_cons (pv 1) pa_nil)) (pe_op op_rep (pe_lst (pa_cons pe_int pa_nil)) (pe_op op_sub (pv 2) (pe_callB (id := "len") (r := rLn K) call_len_seq (by rfl) nb.len PySem.boot_len (pa_cons (pv 1) pa_nil))))))
    (pss_one (ps_ret (pe_cal c1 hr (by decide) (by rfl) (pa_cons
        (pe_lc (own := [("_law_at", 5)]) (g := gName 5) (tt := tYes) rfl scSum.nd (pi_range1 (by rfl) nb.rng (pa_cons (pv 2) pa_nil)) (blkOk_by (N := ["_law_one", "_law_two", "_law_few", "_law_far", "_law_rest_here", "_law_at"]) (sc := defScope sSum) (by decide +kernel))
            (fun _ _ _ _ _ => pg_name (i := 5) scSum.nd rfl (Or.inl rfl)) (fun _ _ _ _ _ => pts_nil)
            (fun _ _ _ _ _ => pe_op op_add (pe_ix (r := rIxL K) ix_list (pv 3) (pv 5) (fun _ _ => rfl)) (pe_ix (r := rIxL K) ix_list (pv 4) (pv 5) (fun _ _ => rfl)))) pa_nil)))))), ?_⟩
  walk_at "rd"
  obtain ⟨pu, rfl, eu⟩ := hu
  obtain ⟨pw, rfl, ev⟩ := hv
  refine ⟨.ref pu, rfl, pu, _, rfl, .inr (SqT.of eu), .ref pw, rfl, pw, _, rfl, .inr (SqT.of ev), _, _, rfl, ?_⟩
  have em : (if ((t.map V.int).length : Int) > ((r.map V.int).length : Int) then ((t.map V.int).length : Int) else ((r.map V.int).length : Int)) = ((max r.length t.length : Nat) : Int) := by
    rw [List.length_map, List.length_map]
    split <;> omega
  rw [em]
  generalize hN : max r.length t.length = N
  have hrN : r.length ≤ N := by omega
  have htN : t.length ≤ N := by omega
  have hN100 : N ≤ 100 := by omega
  have pad : ∀ (a : List Int), a.length ≤ N → a.map V.int ++ (List.replicate ((N : Int) - ((a.map V.int).length : Int)).toNat [V.int 0]).flatten = (a ++ List.replicate (N - a.length) 0).map V.int := fun a ha => by
    rw [flat_one, List.map_append, List.map_replicate, List.length_map]
    congr 2
    omega
  refine ⟨.ref pu, rfl, pu, _, rfl, .inr (SqT.of eu), fun L1 n1 => ?_⟩
  have s1 := same_new (o := .lst (r.map V.int)) n1
  have e1 : upd H L1 (.lst (r.map V.int)) L1 = some (.lst (r.map V.int)) := upd_same
  generalize upd H L1 (.lst (r.map V.int)) = H1 at s1 e1 ⊢
  refine ⟨sz (by simp), fun L0 n0 => ?_⟩
  have s2 := same_new (o := .lst [.int 0]) n0
  have s12 := s1.trans s2
  refine ⟨.int N, rfl, .ref pu, rfl, pu, _, rfl, .inr (SqT.of (s12 _ _ eu)), _, _, rfl, rfl, L0, _, _, rfl, rfl, upd_same, by rw [List.length_map]; omega, by rw [List.length_map]; omega, ?_, fun p np => ?_⟩
  · exact sz (by rw [List.length_map]; simp; omega)
  have s3 := same_new (o := .lst (List.replicate ((N : Int) - ((r.map V.int).length : Int)).toNat [V.int 0]).flatten) np
  have s23 := s2.trans s3
  refine ⟨L1, p, _, _, rfl, rfl, s23 _ _ e1, upd_same, ?_, fun F nF => ?_⟩
  · have h := congrArg List.length (pad r hrN)
    simp only [List.length_append, List.length_map, List.length_replicate] at h
    exact sz (by simp only [List.length_map] at h ⊢; omega)
  have s4 := same_new (o := .lst (r.map V.int ++ (List.replicate ((N : Int) - ((r.map V.int).length : Int)).toNat [V.int 0]).flatten)) nF
  have eF : upd (upd (upd H1 L0 (.lst [.int 0])) p (.lst (List.replicate ((N : Int) - ((r.map V.int).length : Int)).toNat [V.int 0]).flatten)) F (.lst (r.map V.int ++ (List.replicate ((N : Int) - ((r.map V.int).length : Int)).toNat [V.int 0]).flatten)) F = some (.lst ((r ++ List.replicate (N - r.length) 0).map V.int)) := by rw [upd_same, pad r hrN]
  have sF := s1.trans (s23.trans s4)
  generalize upd (upd (upd H1 L0 (.lst [.int 0])) p (.lst (List.replicate ((N : Int) - ((r.map V.int).length : Int)).toNat [V.int 0]).flatten)) F (.lst (r.map V.int ++ (List.replicate ((N : Int) - ((r.map V.int).length : Int)).toNat [V.int 0]).flatten)) = H2 at sF eF ⊢
  clear s1 s2 s3 s4 s12 s23 n1 n0 np nF e1
  refine ⟨.ref pw, rfl, pw, _, rfl, .inr (SqT.of (sF _ _ ev)), fun L1 n1 => ?_⟩
  have s1 := same_new (o := .lst (t.map V.int)) n1
  have e1 : upd H2 L1 (.lst (t.map V.int)) L1 = some (.lst (t.map V.int)) := upd_same
  generalize upd H2 L1 (.lst (t.map V.int)) = H3 at s1 e1 ⊢
  refine ⟨sz (by simp), fun L0 n0 => ?_⟩
  have s2 := same_new (o := .lst [.int 0]) n0
  have s12 := s1.trans s2
  refine ⟨.int N, rfl, .ref pw, rfl, pw, _, rfl, .inr (SqT.of (s12 _ _ (sF _ _ ev))), _, _, rfl, rfl, L0, _, _, rfl, rfl, upd_same, by rw [List.length_map]; omega, by rw [List.length_map]; omega, ?_, fun p np => ?_⟩
  · exact sz (by rw [List.length_map]; simp; omega)
  have s3 := same_new (o := .lst (List.replicate ((N : Int) - ((t.map V.int).length : Int)).toNat [V.int 0]).flatten) np
  have s23 := s2.trans s3
  refine ⟨L1, p, _, _, rfl, rfl, s23 _ _ e1, upd_same, ?_, fun G nG => ?_⟩
  · have h := congrArg List.length (pad t htN)
    simp only [List.length_append, List.length_map, List.length_replicate] at h
    exact sz (by simp only [List.length_map] at h ⊢; omega)
  have s4 := same_new (o := .lst (t.map V.int ++ (List.replicate ((N : Int) - ((t.map V.int).length : Int)).toNat [V.int 0]).flatten)) nG
  have eG : upd (upd (upd H3 L0 (.lst [.int 0])) p (.lst (List.replicate ((N : Int) - ((t.map V.int).length : Int)).toNat [V.int 0]).flatten)) G (.lst (t.map V.int ++ (List.replicate ((N : Int) - ((t.map V.int).length : Int)).toNat [V.int 0]).flatten)) G = some (.lst ((t ++ List.replicate (N - t.length) 0).map V.int)) := by rw [upd_same, pad t htN]
  have s24 := s1.trans (s23.trans s4)
  generalize upd (upd (upd H3 L0 (.lst [.int 0])) p (.lst (List.replicate ((N : Int) - ((t.map V.int).length : Int)).toNat [V.int 0]).flatten)) G (.lst (t.map V.int ++ (List.replicate ((N : Int) - ((t.map V.int).length : Int)).toNat [V.int 0]).flatten)) = H4 at s24 eG ⊢
  have eF4 := s24 _ _ eF
  have sG := sF.trans s24
  have lf : ∀ a : List Int, a.length ≤ N → ∀ k, k < N → ((a ++ List.replicate (N - a.length) 0).map V.int)[k]? = some (.int (g a k)) := fun a ha k hk => by
    have hl : k < (a ++ List.replicate (N - a.length) (0 : Int)).length := by rw [List.length_append, List.length_replicate]; omega
    rw [List.getElem?_map, List.getElem?_eq_getElem hl, ← g_some hl, g_app0]
    rfl
  refine lc_rng (n := N) (fun k => V.int (g r k + g t k)) (fun R hR => ⟨.int N, rfl, (N : Int), rfl, by omega, by omega, hR⟩) (by omega) (fun x => wipeJ _ _ _) (fun k H5 hk s5 R kR => ?_) fun L H5 s5 nL eL => ?_
  · walk_at "rd"
    rw [Int.zero_add]
    exact ⟨.ref F, rfl, .int k, rfl, F, _, k, _, rfl, rfl, SqL.of (s5 _ _ eF4), atI_nat (lf r hrN k hk), .ref G, rfl, .int k, rfl, G, _, k, _, rfl, rfl, SqL.of (s5 _ _ eG), atI_nat (lf t htN k hk), _, _, rfl, rfl, kR _ (Same.refl _)⟩
  · refine ⟨L, (List.range N).map (fun k => g r k + g t k), rfl, .inl (by rw [List.map_map]; exact eL), by rw [List.length_map, List.length_range]; omega, fun z H6 s6 r6 => q z _ H6 (sG.trans (s5.trans s6)) r6 (okR_trim _) fun k => ?_⟩
    rw [g_trim]
    exact getD_map_range (fun k => g r k + g t k) 0 N k (fun h => by
      show g r k + g t k = 0
      rw [g_none (by omega), g_none (by omega)]
      rfl)
theorem scLScaled : FnScope ["_law_line_here", "_law_by", "_law_each"] ["_law_line_here", "_law_by"] (defScope sLScaled) := ⟨rfl, rfl, rfl, by decide +kernel, rfl, by decide +kernel, by decide +kernel⟩
theorem ok_lscaled (D : Def K mg "_law_scaled" sLScaled ["_law_line_here", "_law_by"]) (c1 : Cal P w K mg base "_law_trim" 1 ["_law_some"] spTrimI) : Cal P w K mg base "_law_scaled" 2 ["_law_line_here", "_law_by"] spLScaled := by
  refine D.ok scLScaled (fun vs H Q E h => ?_) (fun f cdv A out s H vs Q E hr h => ?_)
  · obtain ⟨u, r, c, rfl, _⟩ := h; rfl
  obtain ⟨u, r, c, rfl, hu, lr, c64, q⟩ := h
  refine ⟨_, pss_one (ps_ret (pe_cal c1 hr (by decide) (by rfl) (pa_cons
      (pe_lc (own := [("_law_each", 2)]) (g := gName 2) (tt := tYes) rfl scLScaled.nd (pi_tup (pv 0)) (blkOk_by (N := ["_law_line_here", "_law_by", "_law_each"]) (sc := defScope sLScaled) (by decide +kernel))
        (fun _ _ _ _ _ => pg_name (i := 2) scLScaled.nd rfl (Or.inl rfl)) (fun _ _ _ _ _ => pts_nil) (fun _ _ _ _ _ => pe_op op_mul (pv 1) (pv 2))) pa_nil))), ?_⟩
  walk_at "rd"
  obtain ⟨pu, rfl, eu⟩ := hu
  refine lc_relT (S := fun _ v k => v = V.int k) (R := fun _ v k => v = V.int k) (g := fun x => c * x) (rs := r) (p := pu) (xs := r.map V.int) (stable_eq _) (stable_eq _) rfl eu (RelA.of_map _) (by omega) (fun x => wipeJ _ _ _) (fun x d H1 hd s1 rx Z hZ => ?_) fun L ys H1 s1 nL eL ry => ?_
  · subst rx
    exact ⟨.int c, rfl, .int d, rfl, _, _, rfl, rfl, .inl ⟨by omega, by omega⟩, hZ _ _ (Same.refl _) rfl⟩
  · have ey := RelA.eq_map ry
    refine ⟨L, _, rfl, .inl (by rw [eL, ey]), by rw [List.length_map]; omega, fun z H2 s2 r2 => q z _ H2 (s1.trans s2) r2 (okR_trim _) fun k => by rw [g_trim]; exact g_map c r k⟩
theorem scProd : FnScope ["_law_one", "_law_two", "_law_found", "_law_at", "_law_here", "_law_to", "_law_there"] ["_law_one", "_law_two"] (defScope sProd) := ⟨rfl, rfl, rfl, by decide +kernel, rfl, by decide +kernel, by decide +kernel⟩
theorem ok_prod (D : Def K mg "_law_product" sProd ["_law_one", "_law_two"]) (nb : Nb mg) (ne : mg "enumerate" = none) (c1 : Cal P w K mg base "_law_trim" 1 ["_law_some"] spTrimI) : Cal P w K mg base "_law_product" 2 ["_law_one", "_law_two"] spProd := by
  refine D.ok scProd (fun vs H Q E h => ?_) (fun f cdv A out s H vs Q E hr h => ?_)
  · obtain ⟨u, v, r, s, rfl, _⟩ := h; rfl
  obtain ⟨u, v, a, b, rfl, hu, hv, la, lb, cm, q⟩ := h
  refine ⟨_, pss_cons (ps_set (i := 2) scProd.nd rfl (Or.inl rfl) (pe_op op_rep (pe_lst (pa_cons pe_int pa_nil)) (pe_op op_add (pe_callB (id := "len") (r := rLn K) call_len_seq (by rfl) nb.len PySem.boot_len (pa_cons (pv 0) pa_nil)) (pe_callB (id := "len") (r := rLn K) call_len_seq (by rfl) nb.len PySem.boot_len (pa_cons (pv 1) pa_nil)))))
    (pss_cons (ps_for PassesOwn.never rfl (pi_enumT (by rfl) ne (pv 0)) (pg_tup rfl (pgs_cons (pg_name (i := 3) scProd.nd rfl (Or.inl rfl)) (pgs_cons (pg_name (i := 4) scProd.nd rfl (Or.inl rfl)) pgs_nil)))
      (pss_one (ps_for PassesOwn.never rfl (pi_enumT (by rfl) ne (pv 1)) (pg_tup rfl (pgs_cons (pg_name (i := 5) scProd.nd rfl (Or.inl rfl)) (pgs_cons (pg_name (i := 6) scProd.nd rfl (Or.inl rfl)) pgs_nil)))
        (pss_one (ps_asg (pe_op op_add (pe_ix ix_list (pv 2) (pe_op op_add (pv 3) (pv 5)) (fun _ _ => rfl)) (pe_op op_mulX (pv 4) (pv 6)))
          (pg_sub (pv 2) (pe_op op_add (pv 3) (pv 5)) set_list))))))
    (pss_one (ps_ret (pe_cal c1 hr (by decide) (by rfl) (pa_cons (pv 2) pa_nil))))), ?_⟩
  walk_at "rd"
  obtain ⟨pa, rfl, ea⟩ := hu
  obtain ⟨pb, rfl, eb⟩ := hv
  refine ⟨sz (by simp), fun L0 nL0 => ?_⟩
  have s0 := same_new (o := .lst [.int 0]) nL0
  refine ⟨.ref pa, rfl, pa, _, rfl, .inr (SqT.of (s0 _ _ ea)), .ref pb, rfl, pb, _, rfl, .inr (SqT.of (s0 _ _ eb)), _, _, rfl, rfl, L0, _, _, rfl, rfl, upd_same, by rw [List.length_map]; omega, by rw [List.length_map, List.length_map]; omega, ?_, fun L nL => ?_⟩
  · have := sz (n := ((a.map V.int).length + (b.map V.int).length)) (by rw [List.length_map, List.length_map]; omega)
    show 1 * _ ≤ _
    rw [Nat.one_mul]
    omega
  have s1 := s0.trans (same_new (o := .lst (List.replicate ((((a.map V.int).length : Nat) : Int) + (((b.map V.int).length : Nat) : Int)).toNat [V.int 0]).flatten) nL)
  have nL' : H L = none := s0.free nL
  have eL : upd (upd H L0 (.lst [.int 0])) L (.lst (List.replicate ((((a.map V.int).length : Nat) : Int) + (((b.map V.int).length : Nat) : Int)).toNat [V.int 0]).flatten) L = some (.lst ((List.replicate (a.length + b.length) (0 : Int)).map V.int)) := by
    rw [upd_same, flat_one, List.map_replicate, List.length_map, List.length_map]
    congr 3
  generalize upd (upd H L0 (.lst [.int 0])) L _ = H1 at s1 eL ⊢
  refine ⟨.ref pa, rfl, pa, a.map V.int, rfl, SqT.of (s1 _ _ ea), for_enumT (xs := a.map V.int) (fun i σ H' => ∃ (x4 x5 x6 x7 : Option V) (l : List Int), σ = [some (.ref pa), some (.ref pb), some (.ref L), x4, x5, x6, x7] ∧ Same H H' ∧ H' L = some (.lst (l.map V.int)) ∧ l.length = a.length + b.length ∧ ∀ k, g l k = S i (fun j => if j ≤ k then g a j * g b (k - j) else 0)) ?_ ?_ ?_ ?_⟩
  · exact ⟨none, none, none, none, _, rfl, s1, eL, by simp, fun k => by
      unfold g
      rw [List.getD_eq_getElem?_getD, List.getElem?_replicate]
      split <;> rfl⟩
  · rintro i σ H' hi ⟨x4, x5, x6, x7, l, rfl, s', _⟩
    exact SqT.of (s' _ _ ea)
  · rintro i x p σ H' hx ⟨x4, x5, x6, x7, l, rfl, s', el, ll, cl⟩ np
    rw [List.getElem?_map] at hx
    cases ha : a[i]? with
    | none => rw [ha] at hx; cases hx
    | some c =>
    rw [ha] at hx
    cases hx
    obtain ⟨ia, ga⟩ := List.getElem?_eq_some_iff.mp ha
    have gac : g a i = c := by rw [g_some ia]; exact ga
    have s2 := s'.trans (same_new (o := .tup [.int (i : Nat), .int c]) np)
    have el2 : upd H' p (.tup [.int (i : Nat), .int c]) L = some (.lst (l.map V.int)) := by rw [upd_ne (ne_of_none el np)]; exact el
    refine ⟨p, _, rfl, SqT.of upd_same, rfl, _, _, rfl, _, _, rfl, rfl, ?_⟩
    generalize upd H' p (.tup [.int (i : Nat), .int c]) = H2 at s2 el2 ⊢
    refine ⟨.ref pb, rfl, pb, b.map V.int, rfl, SqT.of (s2 _ _ eb), for_enumT (xs := b.map V.int) (fun m σ H' => ∃ (x6 x7 : Option V) (l : List Int), σ = [some (.ref pa), some (.ref pb), some (.ref L), some (.int (i : Nat)), some (.int c), x6, x7] ∧ Same H H' ∧ H' L = some (.lst (l.map V.int)) ∧ l.length = a.length + b.length ∧ ∀ k, g l k = S i (fun j => if j ≤ k then g a j * g b (k - j) else 0) + (if i ≤ k ∧ k - i < m then g a i * g b (k - i) else 0)) ?_ ?_ ?_ ?_⟩
    · exact ⟨x6, x7, l, rfl, s2, el2, ll, fun k => by rw [cl k, if_neg (by omega), Int.add_zero]⟩
    · rintro m σ H' hm ⟨x6, x7, l, rfl, s', _⟩
      exact SqT.of (s' _ _ eb)
    · rintro m x p σ H' hx ⟨x6, x7, l, rfl, s', el, ll, cl⟩ np
      rw [List.getElem?_map] at hx
      cases hb : b[m]? with
      | none => rw [hb] at hx; cases hx
      | some d =>
      rw [hb] at hx
      cases hx
      obtain ⟨ib, gb⟩ := List.getElem?_eq_some_iff.mp hb
      have gbd : g b m = d := by rw [g_some ib]; exact gb
      have il : i + m < l.length := by omega
      have cmm := cm.get ia ib
      rw [ga, gb] at cmm
      have s2 := s'.trans (same_new (o := .tup [.int (m : Nat), .int d]) np)
      have el2 : upd H' p (.tup [.int (m : Nat), .int d]) L = some (.lst (l.map V.int)) := by rw [upd_ne (ne_of_none el np)]; exact el
      refine ⟨p, _, rfl, SqT.of upd_same, rfl, _, _, rfl, _, _, rfl, rfl, ?_⟩
      generalize upd H' p (.tup [.int (m : Nat), .int d]) = H2 at s2 el2 ⊢
      have im2 : (i : Int) + (m : Int) = ((i + m : Nat) : Int) := by omega
      have gl : (l.map V.int)[i + m]? = some (.int l[i + m]) := by rw [List.getElem?_map, List.getElem?_eq_getElem il]; rfl
      refine ⟨.ref L, rfl, .int (i : Nat), rfl, .int (m : Nat), rfl, _, _, rfl, rfl, ?_⟩
      walk_at "rd"
      rw [im2]
      refine ⟨L, _, _, _, rfl, rfl, SqL.of el2, atI_nat gl, .int c, rfl, .int d, rfl, _, _, rfl, rfl, cmm, _, _, rfl, rfl, .ref L, rfl, .int (i : Nat), rfl, .int (m : Nat), rfl, _, _, rfl, rfl, ?_⟩
      walk_at "rd"
      rw [im2]
      refine ⟨L, _, _, i + m, rfl, rfl, el2, Evl.ixN_nat (by rw [List.length_map]; exact il), some (.int (m : Nat)), some (.int d), l.set (i + m) (l[i + m] + c * d), rfl, same_upd s2 nL', by rw [upd_same, map_set'], by rw [List.length_set]; exact ll, fun k => ?_⟩
      rw [g_set il, cl k]
      by_cases e : k = i + m
      · subst e
        rw [if_pos rfl, if_pos (by omega), ← g_some il, cl (i + m), if_neg (by omega), show i + m - i = m from by omega, gac, gbd, Int.add_zero]
      · rw [if_neg e]
        congr 1
        by_cases e2 : i ≤ k ∧ k - i < m
        · rw [if_pos e2, if_pos (by omega)]
        · rw [if_neg e2, if_neg (by omega)]
    · rintro σ H' ⟨x6, x7, l, rfl, s', el, ll, cl⟩
      refine ⟨_, _, x6, x7, l, rfl, s', el, ll, fun k => ?_⟩
      rw [cl k, S, List.length_map]
      congr 1
      by_cases e : i ≤ k
      · rw [if_pos e]
        by_cases e2 : k - i < b.length
        · rw [if_pos ⟨e, e2⟩]
        · rw [if_neg (by omega), g_none (show b.length ≤ k - i by omega), Int.mul_zero]
      · rw [if_neg e, if_neg (by omega)]
  · rintro σ H' ⟨x4, x5, x6, x7, l, rfl, s', el, ll, cl⟩
    refine ⟨.ref L, rfl, L, l, rfl, .inl el, by omega, fun z H6 s6 r6 => q z _ H6 (s'.trans s6) r6 (okR_trim _) fun k => ?_⟩
    rw [g_trim, cl k, List.length_map]
    exact cv_loop (fun i hi => g_none hi) k
theorem scSlope : FnScope ["_law_line_here", "_law_at", "_law_each"] ["_law_line_here"] (defScope sSlope) := ⟨rfl, rfl, rfl, by decide +kernel, rfl, by decide +kernel, by decide +kernel⟩
theorem ok_slope (D : Def K mg "_law_slope" sSlope ["_law_line_here"]) (nb : Nb mg) (ne : mg "enumerate" = none) : Cal P w K mg base "_law_slope" 1 ["_law_line_here"] spSlope := by
  refine D.ok scSlope (fun vs H Q E h => ?_) (fun f cdv A out s H vs Q E hr h => ?_)
  · obtain ⟨u, r, rfl, _⟩ := h; rfl
  obtain ⟨u, r, rfl, hu, okr, lr, q⟩ := h
  refine ⟨_, pss_one (ps_ret (pe_callTy (T := "tuple") call_tuple_of (by rfl) nb.tup (by decide +kernel) (pa_cons (pe_lc (own := [("_law_at", 1), ("_law_each", 2)]) (g := gTup K 2 (gCons (gName 1) (gCons (gName 2) gNil))) (tt := _) rfl scSlope.nd (pi_enumT (by rfl) ne (pv 0)) (blkOk_by (N := ["_law_line_here", "_law_at", "_law_each"]) (sc := defScope sSlope) (by decide +kernel))
        (fun _ _ _ _ _ => pg_tup rfl (pgs_cons (pg_name (i := 1) scSlope.nd rfl (Or.inl rfl)) (pgs_cons (pg_name (i := 2) scSlope.nd rfl (Or.inl rfl)) pgs_nil))) (fun _ _ _ _ _ => pts_one (pt_cmpR op_gt (pv 1) pe_int (nomark _))) (fun _ _ _ _ _ => pe_op op_mul (pv 1) (pv 2))) pa_nil))), ?_⟩
  walk_at "rd"
  obtain ⟨pu, rfl, eu⟩ := hu
  refine ⟨.ref pu, rfl, pu, r.map V.int, rfl, SqT.of eu, fun L nL => lc_enumT (xs := r.map V.int) (fun m H' => Same H H' ∧ ∃ l : List Int, H' L = some (.lst (l.map V.int)) ∧ l.length = m - 1 ∧ ∀ i, i + 1 < m → g l i = ((i + 1 : Nat) : Int) * g r (i + 1)) ?_ ?_ ?_ ?_⟩
  · exact ⟨same_new nL, [], upd_same, rfl, fun i hi => (by omega)⟩
  · rintro i H' hi ⟨s', _⟩
    exact SqT.of (s' _ _ eu)
  · rintro i x t H' hx ⟨s', l, el, ll, cl⟩ nt
    rw [List.getElem?_map] at hx
    cases hb : r[i]? with
    | none => rw [hb] at hx; cases hx
    | some c =>
    rw [hb] at hx
    cases hx
    obtain ⟨ir, gr⟩ := List.getElem?_eq_some_iff.mp hb
    have grc : g r i = c := by rw [g_some ir]; exact gr
    have sp := same_new (o := .tup [.int (i : Nat), .int c]) nt
    have s2 := s'.trans sp
    have el2 := sp _ _ el
    refine ⟨t, _, rfl, SqT.of upd_same, rfl, _, _, rfl, _, _, rfl, rfl, ?_⟩
    generalize upd H' t (.tup [.int (i : Nat), .int c]) = H2 at s2 el2 ⊢
    refine ⟨rfl, .int (i : Nat), rfl, _, _, rfl, rfl, _, rfl, ?_⟩
    by_cases z : i = 0
    · subst z
      refine iteF ⟨s2, l, el2, by omega, fun i hi => by omega⟩
    · rw [show decide (((i : Nat) : Int) > 0) = true from decide_eq_true (by omega)]
      refine iteT ⟨.int (i : Nat), rfl, .int c, rfl, _, _, rfl, rfl, .inl ⟨by omega, by omega⟩, l.map V.int, el2, lt_line (by rw [List.length_map]; omega), same_upd s2 nL, l ++ [(i : Int) * c], by rw [upd_same, List.map_append]; rfl, by simp [ll]; omega, fun k hk => ?_⟩
      rcases Nat.lt_or_eq_of_le (Nat.le_of_lt_succ hk) with y | y
      · rw [← cl k y]
        unfold g
        rw [List.getD_eq_getElem?_getD, List.getD_eq_getElem?_getD, List.getElem?_append_left (by omega)]
      · have e : g (l ++ [(i : Int) * c]) k = (i : Int) * c := by
          unfold g
          rw [List.getD_eq_getElem?_getD, List.getElem?_append_right (by omega), show k - l.length = 0 from by omega]
          rfl
        rw [e, y, grc]
  · rintro H' ⟨s', l, el, ll, cl⟩
    rw [List.length_map] at ll cl
    have all : ∀ k, g l k = ((k + 1 : Nat) : Int) * g r (k + 1) := fun k => by
      rcases Nat.lt_or_ge (k + 1) r.length with c | c
      · exact cl k c
      · rw [g_none (show l.length ≤ k by omega), g_none c, Int.mul_zero]
    have okl : okR l := fun c hc => by
      have e1 := hc
      rw [List.getLast?_eq_getElem?] at hc
      have hl : l.length - 1 < l.length := (List.getElem?_eq_some_iff.mp hc).1
      have e : g l (l.length - 1) = c := by
        unfold g
        rw [List.getD_eq_getElem?_getD, hc]
        rfl
      rw [all] at e
      have ne : r ≠ [] := fun z => by rw [z] at ll; have ll2 : l.length = 0 := ll; omega
      have := okR_last okr ne
      rw [show l.length - 1 + 1 = r.length - 1 from by omega] at e
      rw [← e]
      have h1 : ((r.length - 1 : Nat) : Int) ≠ 0 := by omega
      exact Int.mul_ne_zero h1 this
    refine ⟨L, _, rfl, .inl ⟨SqL.of el, fun t nt => ?_⟩⟩
    exact q _ l _ (s'.trans (same_new nt)) ⟨t, rfl, upd_same⟩ okl all
end
end K03

set_option Elab.async false
set_option linter.all false
set_option maxRecDepth 100000
set_option maxHeartbeats 4000000
/-! // of ints of any size -/
namespace K03
open PySem PySem.Spec PyProof.Rows L2 Tw
/-- nobody looks on while a great division runs -/
def Se (X : Cx) : Prop := X.base.NoSeer ∧ X.prog.given.tree = none ∧ ∃ e l, X.stack = e :: l ∧ e.scope.isGenerator = false ∧ e.scope.isCoroutine = false ∧ e.builtins = builtinsNs ∧ e.globals = mainGlobals
theorem se_mk {X : Cx} {e : Env} {l : List Env} (hN : X.base.NoSeer) (ht : X.prog.given.tree = none) (hs : X.stack = e :: l) (h : e.scope.isGenerator = false ∧ e.scope.isCoroutine = false ∧ e.builtins = builtinsNs ∧ e.globals = mainGlobals) : Se X := ⟨hN, ht, e, l, hs, h⟩
theorem op_fdivP {X : Cx} {k : Nat} (h : Se X) (hr : Room k X.A) (hk : 32 ≤ k) : OpR X (binaryOp .FloorDiv) (rI (fun _ j => j ≠ 0) fun i j => .int (i.fdiv j)) := by
  intro pins s σ H x y v u Q I rx ry h'
  obtain ⟨i, j, rfl, rfl, hc, q⟩ := h'
  obtain ⟨t, rfl⟩ := rx
  obtain ⟨t', rfl⟩ := ry
  obtain ⟨hN, ht, e, l, hs, hg, hco, hb, hgl⟩ := h
  have hfr : X.A.frames = some (e :: l) := by rw [I.ok.frames, hs]
  refine floordiv_int hc ⟨.int (i.fdiv j), H, I.tok _, ⟨_, rfl⟩, q⟩ (.inr ?_)
  exact PylongRoom.of I.nolimit (by have := hr.dp; show _ + 100 < _; omega) (SeerAt.of (hN.keeps fun b o e => (I.bs b o e).1) ht hfr hg hco hb hgl)
end K03

set_option Elab.async false
set_option linter.all false
set_option maxRecDepth 100000
set_option maxHeartbeats 4000000
/-! values of rows at whole numbers, sizes, expressions over rows -/
namespace K03
/-- the value -/
def ev (x : Int) : List Int → Int
  | [] => 0
  | c :: r => c + x * ev x r
/-- the sum of the sizes -/
def nm : List Int → Nat
  | [] => 0
  | c :: r => c.natAbs + nm r
def addR : List Int → List Int → List Int
  | [], s => s
  | r, [] => r
  | a :: r, b :: s => (a + b) :: addR r s
def sclR (c : Int) (r : List Int) : List Int := r.map (c * ·)
def mulR : List Int → List Int → List Int
  | [], _ => []
  | a :: r, s => addR (sclR a s) (0 :: mulR r s)
theorem addR_nil (r : List Int) : addR r [] = r := by cases r <;> rfl
theorem ev_add (x : Int) : ∀ r s : List Int, ev x (addR r s) = ev x r + ev x s
  | [], s => by rw [addR]; simp [ev]
  | a :: r, [] => by rw [addR_nil]; simp [ev]
  | a :: r, b :: s => by rw [addR, ev, ev, ev, ev_add x r s, Int.mul_add]; omega
theorem ev_scl (x c : Int) : ∀ r : List Int, ev x (sclR c r) = c * ev x r
  | [] => by simp [sclR, ev]
  | a :: r => by
    have := ev_scl x c r
    unfold sclR at this ⊢
    rw [List.map_cons, ev, ev, this, Int.mul_add, Int.mul_left_comm]
theorem ev_mul (x : Int) : ∀ r s : List Int, ev x (mulR r s) = ev x r * ev x s
  | [], s => by simp [mulR, ev]
  | a :: r, s => by rw [mulR, ev_add, ev_scl, ev, ev, ev_mul x r s, Int.add_mul, Int.mul_assoc]; omega
theorem nm_add : ∀ r s : List Int, nm (addR r s) ≤ nm r + nm s
  | [], s => by rw [addR]; simp [nm]
  | a :: r, [] => by rw [addR_nil]; simp [nm]
  | a :: r, b :: s => by
    have := nm_add r s
    rw [addR, nm, nm, nm]
    omega
theorem nm_scl (c : Int) : ∀ r : List Int, nm (sclR c r) = c.natAbs * nm r
  | [] => by simp [sclR, nm]
  | a :: r => by
    have := nm_scl c r
    unfold sclR at this ⊢
    rw [List.map_cons, nm, nm, this, Int.natAbs_mul, Nat.mul_add]
theorem nm_mul : ∀ r s : List Int, nm (mulR r s) ≤ nm r * nm s
  | [], s => by simp [mulR, nm]
  | a :: r, s => by
    have h1 := nm_add (sclR a s) (0 :: mulR r s)
    have h2 := nm_mul r s
    rw [mulR, nm, Nat.add_mul]
    rw [nm_scl] at h1
    have h3 : nm (0 :: mulR r s) = nm (mulR r s) := by rw [nm]; simp
    omega
theorem nm_mem : ∀ {r : List Int} {c : Int}, c ∈ r → c.natAbs ≤ nm r
  | a :: r, c, h => by
    rw [nm]
    rcases List.mem_cons.mp h with rfl | h
    · omega
    · have := nm_mem h; omega
theorem nm_pos {r : List Int} (h : okR r) (e : r ≠ []) : 1 ≤ nm r := by
  obtain ⟨c, hc⟩ : ∃ c, r.getLast? = some c := by
    cases h : r.getLast? with
    | none => exact absurd (List.getLast?_eq_none_iff.mp h) e
    | some c => exact ⟨c, rfl⟩
  have := h c hc
  have := nm_mem (List.mem_of_getLast? hc)
  omega
/-! numbers of such rows -/
theorem g_add : ∀ (r s : List Int) (k : Nat), g (addR r s) k = g r k + g s k
  | [], s, k => by rw [addR, show g [] k = 0 from rfl]; omega
  | a :: r, [], k => by rw [addR_nil, show g [] k = 0 from rfl]; omega
  | a :: r, b :: s, 0 => rfl
  | a :: r, b :: s, k + 1 => by
    have := g_add r s k
    show g (addR r s) k = g r k + g s k
    exact this
theorem g_scl (c : Int) : ∀ (r : List Int) (k : Nat), g (sclR c r) k = c * g r k
  | [], k => by show (0 : Int) = c * 0; simp
  | a :: r, 0 => rfl
  | a :: r, k + 1 => g_scl c r k
theorem g_mul : ∀ (r s : List Int) (k : Nat), g (mulR r s) k = cv (g r) (g s) k
  | [], s, k => (cv_zero (f := g []) (fun i => rfl) k).symm
  | a :: r, s, k => by
    rw [mulR, g_add, g_scl]
    cases k with
    | zero =>
      show a * g s 0 + 0 = cv (g (a :: r)) (g s) 0
      unfold cv
      rw [S, S]
      show _ = 0 + a * g s 0
      omega
    | succ k =>
      show a * g s (k + 1) + g (mulR r s) k = cv (g (a :: r)) (g s) (k + 1)
      rw [g_mul r s k]
      unfold cv
      rw [S_shift (n := k + 1)]
      show _ = a * g s (k + 1 - 0) + _
      rw [Nat.sub_zero]
      congr 1
      refine S_ext _ fun i hi => ?_
      show g r i * g s (k - i) = g r i * g s (k + 1 - (i + 1))
      rw [Nat.add_sub_add_right]
theorem ev_ext (x : Int) : ∀ {r s : List Int}, (∀ k, g r k = g s k) → ev x r = ev x s
  | [], [], _ => rfl
  | [], b :: s, h => by
    have h0 : (0 : Int) = b := h 0
    have ih := ev_ext x (r := []) (s := s) fun k => h (k + 1)
    rw [ev, ev, ← ih, ← h0, ev]; simp
  | a :: r, [], h => by
    have h0 : a = (0 : Int) := h 0
    have ih := ev_ext x (r := r) (s := []) fun k => h (k + 1)
    rw [ev, ev, ih, h0, ev]; simp
  | a :: r, b :: s, h => by
    have h0 : a = b := h 0
    rw [ev, ev, h0, ev_ext x (r := r) (s := s) fun k => h (k + 1)]
theorem ev_trim (x : Int) (r : List Int) : ev x (trimI r) = ev x r := ev_ext x (g_trim r)
theorem nm_trim : ∀ r : List Int, nm (trimI r) ≤ nm r
  | [] => Nat.le_refl _
  | a :: r => by
    have ih := nm_trim r
    unfold trimI at ih ⊢
    rw [trimBy]
    cases e : trimBy (fun c : Int => c == 0) r with
    | nil =>
      dsimp only
      split
      · exact Nat.zero_le _
      · rw [nm, nm]; simp [nm]
    | cons b l => rw [e] at ih; dsimp only; rw [nm, nm.eq_def (a :: r)]; dsimp only; omega
/-- a value 0 of small numbers -/
theorem ev_zero {X : Nat} : ∀ {r : List Int}, (∀ c ∈ r, c.natAbs < X) → ev (X : Int) r = 0 → ∀ c ∈ r, c = 0
  | [], _, _, c, h => by cases h
  | a :: r, hb, h, c, hc => by
    rw [ev] at h
    have h1 := hb a (List.mem_cons_self ..)
    have a0 : a = 0 := by
      have d : (X : Int) ∣ a := ⟨-ev (X : Int) r, by rw [Int.mul_neg]; omega⟩
      have d2 : X ∣ a.natAbs := by have := Int.natAbs_dvd_natAbs.mpr d; rwa [Int.natAbs_natCast] at this
      have := Nat.eq_zero_of_dvd_of_lt d2 h1
      omega
    have e0 : ev (X : Int) r = 0 := by
      rw [a0, Int.zero_add] at h
      rcases Int.mul_eq_zero.mp h with z | z
      · have : X = 0 := by omega
        omega
      · exact z
    rcases List.mem_cons.mp hc with rfl | hc
    · exact a0
    · exact ev_zero (fun c h => hb c (List.mem_cons_of_mem _ h)) e0 c hc
theorem okR_zero {r : List Int} (h : okR r) (z : ∀ c ∈ r, c = 0) : r = [] := by
  cases e : r.getLast? with
  | none => exact List.getLast?_eq_none_iff.mp e
  | some c => exact absurd (z c (List.mem_of_getLast? e)) (h c e)
/-- a row is known by its values -/
theorem ev_inj {r s : List Int} (hr : okR r) (hs : okR s) (h : ∀ x, ev x r = ev x s) : r = s := by
  have h1 : ∀ k, g (addR r (sclR (-1) s)) k = 0 := fun k => by
    have z := ev_zero (X := nm (addR r (sclR (-1) s)) + 1) (r := addR r (sclR (-1) s)) (fun c hc => by have := nm_mem hc; omega) (by rw [ev_add, ev_scl, h]; omega)
    rcases Nat.lt_or_ge k (addR r (sclR (-1) s)).length with c | c
    · rw [g_some c]; exact z _ (List.getElem_mem _)
    · exact g_none c
  refine row_ext hr hs fun k => ?_
  have := h1 k
  rw [g_add, g_scl] at this
  omega
theorem ev_ne {r : List Int} (h : okR r) (e : r ≠ []) {X : Nat} (hb : ∀ c ∈ r, c.natAbs < X) : ev (X : Int) r ≠ 0 := fun z => e (okR_zero h (ev_zero hb z))
theorem ev_le (X : Nat) (hX : 1 ≤ X) : ∀ {n : Nat} {r : List Int}, r.length ≤ n + 1 → (ev (X : Int) r).natAbs ≤ nm r * X ^ n
  | _, [], _ => by simp [ev]
  | 0, [a], _ => by simp [ev, nm]
  | 0, a :: b :: r, h => by simp at h
  | n + 1, a :: r, h => by
    have ih := ev_le X hX (n := n) (r := r) (by simpa using h)
    rw [ev, nm, Nat.add_mul, Nat.pow_succ]
    have h1 : (a + (X : Int) * ev (X : Int) r).natAbs ≤ a.natAbs + X * (ev (X : Int) r).natAbs := by
      refine Nat.le_trans (Int.natAbs_add_le ..) ?_
      rw [Int.natAbs_mul, Int.natAbs_natCast]
      exact Nat.le_refl _
    have h2 : X * (ev (X : Int) r).natAbs ≤ nm r * (X ^ n * X) := by
      rw [Nat.mul_comm X, ← Nat.mul_assoc]
      exact Nat.mul_le_mul_right _ ih
    have h3 : a.natAbs * 1 ≤ a.natAbs * (X ^ n * X) := Nat.mul_le_mul_left _ (Nat.mul_pos (Nat.pow_pos hX) hX)
    omega
/-! expressions -/
inductive Ex where
  | v (i : Nat)
  | k (c : Int)
  | add (a b : Ex)
  | mul (a b : Ex)
def Ex.int (ρ : Nat → Int) : Ex → Int
  | .v i => ρ i
  | .k c => c
  | .add a b => a.int ρ + b.int ρ
  | .mul a b => a.int ρ * b.int ρ
def Ex.row (ρ : Nat → List Int) : Ex → List Int
  | .v i => ρ i
  | .k c => [c]
  | .add a b => addR (a.row ρ) (b.row ρ)
  | .mul a b => mulR (a.row ρ) (b.row ρ)
def Ex.nrm (ρ : Nat → Nat) : Ex → Nat
  | .v i => ρ i
  | .k c => c.natAbs
  | .add a b => a.nrm ρ + b.nrm ρ
  | .mul a b => a.nrm ρ * b.nrm ρ
theorem Ex.ev (x : Int) (ρ : Nat → List Int) : ∀ e : Ex, K03.ev x (e.row ρ) = e.int fun i => K03.ev x (ρ i)
  | .v i => rfl
  | .k c => by show c + x * 0 = c; omega
  | .add a b => by rw [Ex.row, ev_add, Ex.ev x ρ a, Ex.ev x ρ b]; rfl
  | .mul a b => by rw [Ex.row, ev_mul, Ex.ev x ρ a, Ex.ev x ρ b]; rfl
theorem Ex.nm (ρ : Nat → List Int) : ∀ e : Ex, K03.nm (e.row ρ) ≤ e.nrm fun i => K03.nm (ρ i)
  | .v i => Nat.le_refl _
  | .k c => Nat.le_refl _
  | .add a b => Nat.le_trans (nm_add _ _) (Nat.add_le_add (Ex.nm ρ a) (Ex.nm ρ b))
  | .mul a b => Nat.le_trans (nm_mul _ _) (Nat.mul_le_mul (Ex.nm ρ a) (Ex.nm ρ b))
end K03

set_option Elab.async false
set_option linter.all false
set_option maxRecDepth 100000
set_option maxHeartbeats 4000000
/-! the program's chain of rests, as a plain function, and what it tells of a row beside its derivative -/
namespace K03
/-- the head -/
def hd (r : List Int) : Int := g r (r.length - 1)
def subAt : Nat → Int → List Int → List Int → List Int
  | 0, _, [], r => r
  | 0, _, _ :: _, [] => []
  | 0, t, b :: bs, c :: r => (c - t * b) :: subAt 0 t bs r
  | _ + 1, _, _, [] => []
  | n + 1, t, bs, c :: r => c :: subAt n t bs r
def frGo (bb : List Int) : Nat → List Int → List Int
  | 0, r => r
  | n + 1, r => frGo bb n (subAt n (hd r) bb.dropLast (r.dropLast.map fun c => hd bb * c))
def fr (row bb : List Int) : List Int := trimI (frGo bb (row.length - bb.length + 1) row)
def oh (h s : Int) : Nat → Int
  | 0 => h
  | k + 1 => if k % 2 = 0 then -(h * oh h s k).fdiv s else (h * oh h s k).fdiv s
def srGo : Nat → Nat → List (List Int) → List Int → List Int → Int → Int → Option (List (List Int))
  | 0, _, _, _, _, _, _ => none
  | f + 1, at_, found, upper, lower, scale, lead =>
    if lower = [] then some found else
    if hd lower = 0 ∨ at_ < lower.length then none else
    let low := lower.length - 1
    let own := oh (hd lower) scale (at_ - 1 - low)
    let found1 := if low < at_ - 1 then found.set low (lower.map fun n => (own * n).fdiv (hd lower)) else found
    if low = 0 then some found1 else
    if own = 0 then none else
    let rest := (fr upper lower).map fun n => (-own * n).fdiv (hd lower ^ (at_ - low) * scale * lead)
    srGo f low (found1.set (low - 1) rest) lower rest own (hd lower)
theorem fdiv_eq {x y z : Int} (h : y ≠ 0) (e : x = y * z) : x.fdiv y = z := by
  rw [e, Int.mul_fdiv_cancel_left _ h]
theorem trim_nil_of {S : List Int} (h : trimI S = []) : ∀ c ∈ S, c = 0 := fun c hc => by
  obtain ⟨k, hk, e⟩ := List.getElem_of_mem hc
  have := g_trim S k
  rw [h, g_some hk, e] at this
  exact this.symm
inductive Fa (R : Int → Int → Prop) : List Int → List Int → Prop
  | nil : Fa R [] []
  | cons {x s : Int} {L S : List Int} : R x s → Fa R L S → Fa R (x :: L) (s :: S)
theorem div_trim {own over : Int} (ho : over ≠ 0) (hw : own ≠ 0) : ∀ {L S : List Int}, Fa (fun x s => -own * x = over * s) L S → (trimI L).map (fun n => (-own * n).fdiv over) = trimI S
  | _, _, .nil => rfl
  | _, _, .cons (x := x) (s := s) (L := L) (S := S) h t => by
    have ih := div_trim ho hw t
    have z : x = 0 ↔ s = 0 := by
      constructor
      · intro e; rw [e, Int.mul_zero] at h
        rcases Int.mul_eq_zero.mp h.symm with q | q
        · exact absurd q ho
        · exact q
      · intro e; rw [e, Int.mul_zero] at h
        rcases Int.mul_eq_zero.mp h with q | q
        · omega
        · exact q
    unfold trimI at ih ⊢
    rw [trimBy, trimBy]
    cases e1 : trimBy (fun c : Int => c == 0) L with
    | nil =>
      rw [e1] at ih
      rw [← ih]
      dsimp only [List.map_nil]
      by_cases c : x = 0
      · rw [if_pos (by simp [c]), if_pos (by simp [z.mp c])]; rfl
      · have c' : ¬ s = 0 := fun q => c (z.mpr q)
        rw [if_neg (by simp [c]), if_neg (by simp [c'])]
        show [(-own * x).fdiv over] = [s]
        rw [fdiv_eq ho h]
    | cons b l =>
      rw [e1] at ih
      rw [← ih]
      show (-own * x).fdiv over :: List.map (fun n => (-own * n).fdiv over) (b :: l) = s :: List.map (fun n => (-own * n).fdiv over) (b :: l)
      rw [fdiv_eq ho h]
end K03

set_option Elab.async false
set_option linter.all false
set_option maxRecDepth 100000
set_option maxHeartbeats 4000000
/-! how great the numbers are -/
namespace K03
open PySem PySem.Spec PyProof.Rows L2
/-- less than 2 ^ n in size -/
def Wd (n : Nat) (i : Int) : Prop := i.natAbs < 2 ^ n
theorem Wd.up {n m : Nat} {i : Int} (h : Wd n i) (l : n ≤ m) : Wd m i := Nat.lt_of_lt_of_le h (Nat.pow_le_pow_right (by decide) l)
theorem Wd.zero (n : Nat) : Wd n 0 := Nat.pow_pos (by decide)
theorem Wd.neg {n : Nat} {i : Int} (h : Wd n i) : Wd n (-i) := by unfold Wd; rw [Int.natAbs_neg]; exact h
theorem Wd.mul {n m : Nat} {i j : Int} (h : Wd n i) (g : Wd m j) : Wd (n + m) (i * j) := by
  unfold Wd
  rw [Int.natAbs_mul, Nat.pow_add]
  exact Nat.mul_lt_mul_of_lt_of_le h (Nat.le_of_lt g) (Nat.pow_pos (by decide))
theorem Wd.add {n : Nat} {i j : Int} (h : Wd n i) (g : Wd n j) : Wd (n + 1) (i + j) := by
  unfold Wd at *
  rw [Nat.pow_succ]
  have := Int.natAbs_add_le i j
  omega
theorem Wd.sub {n : Nat} {i j : Int} (h : Wd n i) (g : Wd n j) : Wd (n + 1) (i - j) := by
  rw [Int.sub_eq_add_neg]; exact h.add g.neg
theorem fdiv_abs_pos (i j : Int) (c : 0 < j) : (i.fdiv j).natAbs ≤ i.natAbs := by
  have e := Int.mul_fdiv_add_fmod i j
  generalize hq : i.fdiv j = q at *
  have r1 := Int.fmod_nonneg_of_pos i c
  have r2 := Int.fmod_lt_of_pos i c
  generalize i.fmod j = r at *
  rcases Int.lt_trichotomy q 0 with z | z | z
  · have h3 : j * q + j ≤ q + 1 := by
      have : 0 ≤ (j - 1) * (-q - 1) := Int.mul_nonneg (by omega) (by omega)
      grind
    omega
  · omega
  · have h1 : j * q ≥ q := by
      have : 0 ≤ (j - 1) * q := Int.mul_nonneg (by omega) (by omega)
      grind
    omega
theorem fdiv_abs (i j : Int) (h : j ≠ 0) : (i.fdiv j).natAbs ≤ i.natAbs := by
  rcases Int.lt_or_gt_of_ne h with c | c
  · have := fdiv_abs_pos (-i) (-j) (by omega)
    rw [Int.neg_fdiv_neg, Int.natAbs_neg] at this
    exact this
  · exact fdiv_abs_pos i j c
theorem Wd.fdiv {n : Nat} {i j : Int} (h : Wd n i) (g : j ≠ 0) : Wd n (i.fdiv j) := Nat.lt_of_le_of_lt (fdiv_abs i j g) h
theorem Wd.pow {n : Nat} {i : Int} (h : Wd n i) : ∀ k : Nat, Wd (k * n + 1) (i ^ k)
  | 0 => by unfold Wd; rw [Int.pow_zero]; show 1 < _; rw [Nat.zero_mul]; decide
  | k + 1 => by
    rw [Int.pow_succ]
    exact ((h.pow k).mul h).up (by rw [Nat.add_mul]; omega)
theorem Wd.cm {n m : Nat} {i j : Int} (h : Wd n i) (g : Wd m j) (l : n + m + 2 ≤ 1000000) : CMulW i j := wide_mul (h.up (Nat.le_succ n)) (g.up (Nat.le_succ m)) (Nat.succ_pos _) (Nat.succ_pos _) (by omega)
theorem intBits_le {i : Int} {n : Nat} (h : Wd n i) : Builtin.Int.intBits i ≤ n := by
  unfold Builtin.Int.intBits
  split
  · omega
  · rename_i z
    have z' : i.natAbs ≠ 0 := by simpa using z
    have := (Nat.log2_lt z').mpr h
    omega
/-! the mirror's numbers -/
def WdA (n : Nat) (r : List Int) : Prop := ∀ c ∈ r, Wd n c
theorem WdA.up {n m : Nat} {r : List Int} (h : WdA n r) (l : n ≤ m) : WdA m r := fun c hc => (h c hc).up l
theorem WdA.g {n : Nat} {r : List Int} (h : WdA n r) (k : Nat) : Wd n (g r k) := by
  rcases Nat.lt_or_ge k r.length with c | c
  · rw [g_some c]; exact h _ (List.getElem_mem _)
  · rw [g_none c]; exact .zero n
theorem WdA.hd {n : Nat} {r : List Int} (h : WdA n r) : Wd n (hd r) := h.g _
theorem oh_wd {h s : Int} {B : Nat} (hb : Wd B h) (hs : s ≠ 0) : ∀ k, Wd ((k + 1) * B) (oh h s k)
  | 0 => hb.up (by omega)
  | k + 1 => by
    have := (hb.mul (oh_wd hb hs k)).fdiv hs
    rw [oh]
    have l : B + (k + 1) * B ≤ (k + 1 + 1) * B := by rw [Nat.add_mul (k + 1)]; omega
    split
    · exact this.neg.up l
    · exact this.up l
theorem subAt_len : ∀ (n : Nat) (t : Int) (bs r : List Int), n + bs.length ≤ r.length → (subAt n t bs r).length = r.length
  | 0, _, [], r, _ => by rw [subAt]
  | 0, _, _ :: _, [], h => by simp at h
  | 0, t, b :: bs, c :: r, h => by rw [subAt, List.length_cons, List.length_cons, subAt_len 0 t bs r (by simp at h ⊢; omega)]
  | n + 1, _, _, [], h => by simp at h
  | n + 1, t, bs, c :: r, h => by rw [subAt, List.length_cons, List.length_cons, subAt_len n t bs r (by simp at h; omega)]
theorem subAt_g : ∀ (n : Nat) (t : Int) (bs r : List Int), n + bs.length ≤ r.length → ∀ k, g (subAt n t bs r) k = if n ≤ k then g r k - t * g bs (k - n) else g r k
  | 0, t, [], r, _, k => by rw [subAt, if_pos (Nat.zero_le _), show g [] (k - 0) = 0 from rfl]; simp
  | 0, _, _ :: _, [], h, k => by simp at h
  | 0, t, b :: bs, c :: r, h, k => by
    rw [subAt, if_pos (Nat.zero_le _)]
    cases k with
    | zero => rfl
    | succ k =>
      have := subAt_g 0 t bs r (by simp at h ⊢; omega) k
      rw [if_pos (Nat.zero_le _)] at this
      exact this
  | n + 1, _, _, [], h, k => by simp at h
  | n + 1, t, bs, c :: r, h, k => by
    rw [subAt]
    cases k with
    | zero => rw [if_neg (by omega)]; rfl
    | succ k =>
      have := subAt_g n t bs r (by simp at h; omega) k
      show g (subAt n t bs r) k = if n + 1 ≤ k + 1 then g r k - t * g bs (k + 1 - (n + 1)) else g r k
      rw [this, Nat.add_sub_add_right]
      simp only [Nat.add_le_add_iff_right]
theorem row_eq {r s : List Int} (l : r.length = s.length) (h : ∀ k, g r k = g s k) : r = s := List.ext_getElem l fun k h1 h2 => by rw [← g_some h1, ← g_some h2, h]
theorem subAt_wd {n A B : Nat} {t : Int} {bs r : List Int} (ht : Wd A t) (hb : WdA B bs) (hr : WdA (A + B) r) (l : n + bs.length ≤ r.length) : WdA (A + B + 1) (subAt n t bs r) := fun c hc => by
  obtain ⟨k, hk, e⟩ := List.getElem_of_mem hc
  rw [← e, ← g_some hk, subAt_g n t bs r l]
  split
  · exact (hr.g k).sub (ht.mul (hb.g _))
  · exact (hr.g k).up (by omega)
theorem WdA.scl {n m : Nat} {t : Int} {r : List Int} (ht : Wd n t) (h : WdA m r) : WdA (n + m) (r.map fun c => t * c) := fun c hc => by
  obtain ⟨x, hx, rfl⟩ := List.mem_map.mp hc
  exact ht.mul (h x hx)
theorem frGo_wd {bb : List Int} {B : Nat} (hb : WdA B bb) : ∀ (n : Nat) {A : Nat} {r : List Int}, WdA A r → bb.length + n = r.length + 1 → 1 ≤ bb.length → WdA (A + n * (B + 1)) (frGo bb n r) ∧ (frGo bb n r).length + 1 = bb.length
  | 0, A, r, h, l, _ => ⟨by rw [frGo]; exact h.up (by omega), by rw [frGo]; omega⟩
  | n + 1, A, r, h, l, l1 => by
    rw [frGo]
    have ll : n + bb.dropLast.length ≤ (r.dropLast.map fun c => hd bb * c).length := by rw [List.length_map, List.length_dropLast, List.length_dropLast]; omega
    have w : WdA (A + B + 1) (subAt n (hd r) bb.dropLast (r.dropLast.map fun c => hd bb * c)) :=
      subAt_wd h.hd (fun c hc => hb c (List.dropLast_subset _ hc)) ((WdA.scl hb.hd (fun c hc => h c (List.dropLast_subset _ hc))).up (by omega)) ll
    have := frGo_wd hb n w (by rw [subAt_len _ _ _ _ ll, List.length_map, List.length_dropLast]; omega) l1
    exact ⟨this.1.up (by rw [Nat.add_mul]; omega), this.2⟩
theorem WdA.trim {n : Nat} {r : List Int} (h : WdA n r) : WdA n (trimI r) := fun c hc => h c (trimBy_mem _ _ hc)
end K03

set_option Elab.async false
set_option linter.all false
set_option maxRecDepth 100000
set_option maxHeartbeats 4000000
/-! sums over Nat, products of rows -/
namespace K03
def sN (f : Nat → Nat) : Nat → Nat
  | 0 => 0
  | n + 1 => sN f n + f n
theorem sN_le {f h : Nat → Nat} : ∀ n, (∀ i, i < n → f i ≤ h i) → sN f n ≤ sN h n
  | 0, _ => Nat.le_refl _
  | n + 1, e => Nat.add_le_add (sN_le n fun i hi => e i (by omega)) (e n (by omega))
theorem sN_ext {f h : Nat → Nat} : ∀ n, (∀ i, i < n → f i = h i) → sN f n = sN h n
  | 0, _ => rfl
  | n + 1, e => by rw [sN, sN, sN_ext n fun i hi => e i (by omega), e n (by omega)]
theorem sN_shift {f : Nat → Nat} : ∀ n, sN f (n + 1) = f 0 + sN (fun c => f (c + 1)) n
  | 0 => by show 0 + f 0 = f 0 + 0; omega
  | n + 1 => by rw [sN, sN_shift n, sN]; omega
theorem sN_mul {f : Nat → Nat} {c : Nat} : ∀ n, sN (fun i => f i * c) n = sN f n * c
  | 0 => by simp [sN]
  | n + 1 => by rw [sN, sN, sN_mul n, Nat.add_mul]
theorem sN_add (f : Nat → Nat) (a : Nat) : ∀ b, sN f (a + b) = sN f a + sN (fun i => f (a + i)) b
  | 0 => rfl
  | b + 1 => by rw [← Nat.add_assoc, sN, sN_add f a b, sN, Nat.add_assoc]
theorem sN_zero {f : Nat → Nat} : ∀ n, (∀ i, i < n → f i = 0) → sN f n = 0
  | 0, _ => rfl
  | n + 1, e => by rw [sN, sN_zero n fun i hi => e i (by omega), e n (by omega)]
theorem mul_above {r s : List Int} {j : Nat} (h : r.length + s.length ≤ j + 1) : g (mulR r s) j = 0 := by
  rw [g_mul]
  unfold cv
  rw [S_ext (h := fun _ => 0) _ fun a ha => ?_, S_zero]
  rcases Nat.lt_or_ge a r.length with c | c
  · rw [g_none (r := s) (by omega), Int.mul_zero]
  · rw [g_none (r := r) c, Int.zero_mul]
theorem okR_len {r : List Int} {L : Nat} (h : okR r) (z : ∀ j, L ≤ j → g r j = 0) : r.length ≤ L := by
  rcases Nat.lt_or_ge L r.length with c | c
  · have ne : r ≠ [] := fun q => by rw [q] at c; simp at c
    exact absurd (z (r.length - 1) (by omega)) (okR_last h ne)
  · exact c
theorem mul_ne {r s : List Int} (hr : okR r) (hs : okR s) (nr : r ≠ []) (ns : s ≠ []) : trimI (mulR r s) ≠ [] := fun z => by
  have a := trim_nil_of z
  have lr := List.length_pos_iff.mpr nr
  have ls := List.length_pos_iff.mpr ns
  have e : g (mulR r s) (r.length - 1 + (s.length - 1)) ≠ 0 := by
    rw [g_mul, cv_top (fun i hi => g_none (by omega)) (fun i hi => g_none (by omega))]
    exact Int.mul_ne_zero (okR_last hr nr) (okR_last hs ns)
  rcases Nat.lt_or_ge (r.length - 1 + (s.length - 1)) (mulR r s).length with c | c
  · rw [g_some c] at e; exact e (a _ (List.getElem_mem _))
  · exact e (g_none c)
end K03

set_option Elab.async false
set_option linter.all false
set_option maxRecDepth 100000
set_option maxHeartbeats 4000000
/-! a bound from below for the value of a factor (first written over K03's rows; turn it for another law) -/
namespace K03
/-- the shift -/
def sh (φ : Nat → Int) (i : Nat) : Int := if i = 0 then 0 else φ (i - 1)
theorem S_lin {f h k : Nat → Int} {a b : Int} : ∀ n, (∀ i, i < n → f i = a * h i + b * k i) → S n f = a * S n h + b * S n k
  | 0, _ => by simp [S]
  | n + 1, e => by rw [S, S, S, S_lin n fun i hi => e i (by omega), e n (by omega)]; grind
theorem cv_lin (κ : Nat → Int) {f h k : Nat → Int} {a b : Int} (e : ∀ i, f i = a * h i + b * k i) (i : Nat) : cv κ f i = a * cv κ h i + b * cv κ k i := by
  unfold cv
  exact S_lin _ fun j _ => by rw [e]; grind
theorem cv_sh (κ φ : Nat → Int) (i : Nat) : cv κ (sh φ) i = sh (cv κ φ) i := by
  unfold cv sh
  by_cases c : i = 0
  · subst c; rw [if_pos rfl, S, S]; simp
  · rw [if_neg c, S]
    have e1 : S i (fun a => κ a * (if i - a = 0 then 0 else φ (i - a - 1))) = S i (fun a => κ a * φ (i - 1 - a)) := S_ext _ fun a ha => by
      rw [if_neg (by omega), show i - a - 1 = i - 1 - a by omega]
    rw [e1, Nat.sub_self, if_pos rfl, Int.mul_zero, Int.add_zero]
    show _ = S (i - 1 + 1) _
    rw [show i - 1 + 1 = i by omega]
/-- the rows of (h F - F(X) H) / (X - x) -/
def fdn (X : Int) (H F : List Int) : List Int := (List.range (H.length - 1)).map fun i => -ev X ((addR (sclR (ev X H) F) (sclR (-(ev X F)) H)).drop (i + 1))
theorem ev_dropS (X : Int) : ∀ (L : List Int) (i : Nat), ev X (L.drop i) = g L i + X * ev X (L.drop (i + 1))
  | [], i => by rw [List.drop_nil, List.drop_nil, ev, show g [] i = 0 from rfl]; simp
  | a :: L, 0 => rfl
  | a :: L, i + 1 => by
    have := ev_dropS X L i
    rw [List.drop_succ_cons, List.drop_succ_cons, this]
    rfl
theorem ad_len : ∀ r s : List Int, (addR r s).length = max r.length s.length
  | [], s => by rw [addR]; simp
  | a :: r, [] => by rw [addR_nil]; simp
  | a :: r, b :: s => by
    have := ad_len r s
    rw [addR, List.length_cons, List.length_cons, List.length_cons, this]
    omega
theorem fdn_rel (X : Int) {H F : List Int} (hF : F.length ≤ H.length - 1) (i : Nat) : X * g (fdn X H F) i - sh (g (fdn X H F)) i = ev X H * g F i - ev X F * g H i := by
  generalize hL : addR (sclR (ev X H) F) (sclR (-(ev X F)) H) = L
  have lL : L.length ≤ H.length := by
    rw [← hL, ad_len]; unfold sclR; rw [List.length_map, List.length_map]; omega
  have gL : ∀ k, g L k = ev X H * g F k - ev X F * g H k := fun k => by rw [← hL, g_add, g_scl, g_scl]; grind
  have e0 : ev X L = 0 := by rw [← hL, ev_add, ev_scl, ev_scl]; grind
  have gf : ∀ k, g (fdn X H F) k = -ev X (L.drop (k + 1)) := fun k => by
    unfold fdn
    rw [hL]
    rcases Nat.lt_or_ge k (H.length - 1) with c | c
    · rw [g_some (by rw [List.length_map, List.length_range]; exact c), List.getElem_map, List.getElem_range]
    · rw [g_none (by rw [List.length_map, List.length_range]; exact c), List.drop_of_length_le (by omega)]; rfl
  rw [gf, ← gL]
  have d := ev_dropS X L i
  unfold sh
  by_cases c : i = 0
  · subst c
    rw [if_pos rfl]
    rw [List.drop_zero, e0] at d
    grind
  · rw [if_neg c, gf, show i - 1 + 1 = i by omega, d]
    grind
/-! the norm -/
def nW (w n : Nat) (φ : Nat → Int) : Nat := sN (fun i => (φ i).natAbs * w ^ i) n
theorem sN_addf (f h : Nat → Nat) : ∀ n, sN (fun i => f i + h i) n = sN f n + sN h n
  | 0 => rfl
  | n + 1 => by rw [sN, sN_addf f h n, sN, sN]; omega
theorem geo (w : Nat) (hw : 1 ≤ w) : ∀ n, (w - 1) * sN (fun i => w ^ i) n + 1 = w ^ n
  | 0 => by simp [sN]
  | n + 1 => by
    have ih := geo w hw n
    rw [sN, Nat.mul_add, Nat.pow_succ]
    have : (w - 1) * w ^ n + w ^ n = w ^ n * w := by
      rw [← Nat.succ_mul, Nat.mul_comm]
      congr 1
      omega
    omega
theorem nW_sh (w : Nat) (φ : Nat → Int) : ∀ n, nW w (n + 1) (sh φ) = w * nW w n φ
  | 0 => by simp [nW, sN, sh]
  | n + 1 => by
    have ih := nW_sh w φ n
    unfold nW at ih ⊢
    rw [sN, ih, sN.eq_def _ (n + 1), Nat.mul_add]
    congr 1
    show (φ n).natAbs * w ^ (n + 1) = _
    rw [Nat.pow_succ]
    grind
/-- the step: what is left is smaller -/
theorem norm_step {X h f : Int} {n w : Nat} {G G' R : Nat → Int} (hw : 1 ≤ w) (X0 : 0 ≤ X) (hR : ∀ i, i < n + 1 → (R i).natAbs ≤ w - 1) (a0 : R (n + 1) ≠ 0) (hG : G (n + 1) = 0) (hG' : G' (n + 1) = 0)
    (rel : ∀ i, X * G' i - sh G' i = h * G i - f * R i) : X.natAbs * nW w (n + 1) G' ≤ h.natAbs * nW w (n + 1) G + w * nW w (n + 1) G' := by
  have top := rel (n + 1)
  rw [hG, hG'] at top
  have top : G' n = f * R (n + 1) := by
    have : sh G' (n + 1) = G' n := rfl
    rw [this] at top
    omega
  have hf : f.natAbs ≤ (G' n).natAbs := by
    rw [top, Int.natAbs_mul]
    exact Nat.le_mul_of_pos_right _ (by omega)
  have h1 : X.natAbs * nW w (n + 1) G' ≤ sN (fun i => h.natAbs * ((G i).natAbs * w ^ i) + ((sh G' i).natAbs * w ^ i + f.natAbs * ((w - 1) * w ^ i))) (n + 1) := by
    unfold nW
    rw [Nat.mul_comm, ← sN_mul]
    refine sN_le _ fun i hi => ?_
    have r := rel i
    have e : X * G' i = h * G i - f * R i + sh G' i := by omega
    have b : X.natAbs * (G' i).natAbs ≤ h.natAbs * (G i).natAbs + f.natAbs * (w - 1) + (sh G' i).natAbs := by
      rw [← Int.natAbs_mul, e]
      have c1 := Int.natAbs_add_le (h * G i - f * R i) (sh G' i)
      have c2 := Int.natAbs_sub_le (h * G i) (f * R i)
      rw [Int.natAbs_mul, Int.natAbs_mul] at c2
      have c3 := Nat.mul_le_mul_left f.natAbs (hR i hi)
      omega
    have b2 := Nat.mul_le_mul_right (w ^ i) b
    rw [Nat.add_mul, Nat.add_mul] at b2
    grind
  refine Nat.le_trans h1 ?_
  rw [sN_addf, sN_addf]
  have e1 : sN (fun i => h.natAbs * ((G i).natAbs * w ^ i)) (n + 1) = h.natAbs * nW w (n + 1) G := by
    unfold nW
    rw [Nat.mul_comm, ← sN_mul]
    exact sN_ext _ fun i _ => Nat.mul_comm _ _
  have e2 : sN (fun i => (sh G' i).natAbs * w ^ i) (n + 1) = w * nW w n G' := nW_sh w G' n
  have e3 : sN (fun i => f.natAbs * ((w - 1) * w ^ i)) (n + 1) = f.natAbs * ((w - 1) * sN (fun i => w ^ i) (n + 1)) := by
    rw [Nat.mul_comm, Nat.mul_comm (w - 1), ← sN_mul, ← sN_mul]
    exact sN_ext _ fun i _ => by grind
  have e4 := geo w hw (n + 1)
  have e5 : nW w (n + 1) G' = nW w n G' + (G' n).natAbs * w ^ n := rfl
  rw [e1, e2, e3, e5, Nat.mul_add]
  have e6 : f.natAbs * ((w - 1) * sN (fun i => w ^ i) (n + 1)) ≤ w * ((G' n).natAbs * w ^ n) := by
    have : (w - 1) * sN (fun i => w ^ i) (n + 1) ≤ w ^ (n + 1) := by omega
    refine Nat.le_trans (Nat.mul_le_mul hf this) (Nat.le_of_eq ?_)
    rw [Nat.pow_succ]
    grind
  omega
/-- the value of a factor at X is 0 or at least X - w -/
theorem factor_val {H K : List Int} {X : Int} {w n : Nat} (hw : 1 ≤ w) (hd : 2 ≤ H.length) (hk : 1 ≤ K.length) (hn : K.length + H.length = n + 3) (lh : g H (H.length - 1) ≠ 0) (lk : g K (K.length - 1) ≠ 0)
    (hR : ∀ i, i < n + 1 → (g (mulR K H) i).natAbs ≤ w - 1) (hX : 0 ≤ X) (h0 : ev X H ≠ 0) : X.natAbs ≤ (ev X H).natAbs + w := by
  refine Classical.byContradiction fun hc => ?_
  have hc : (ev X H).natAbs + w < X.natAbs := by omega
  have a0 : g (mulR K H) (n + 1) ≠ 0 := by
    rw [g_mul, show n + 1 = K.length - 1 + (H.length - 1) by omega, cv_top (fun i hi => g_none (by omega)) (fun i hi => g_none (by omega))]
    exact Int.mul_ne_zero lk lh
  have above : ∀ F : List Int, F.length ≤ H.length - 1 → ∀ i, n + 1 ≤ i → cv (g K) (g F) i = 0 := fun F hF i hi => by
    rw [← g_mul]; exact mul_above (by omega)
  have key : ∀ (N : Nat) (F : List Int), F.length ≤ H.length - 1 → nW w (n + 1) (cv (g K) (g F)) ≤ N → (∃ i, cv (g K) (g F) i ≠ 0) → False := fun N => by
    induction N with
    | zero =>
      rintro F hF hN ⟨i, hi⟩
      have z : ∀ m, nW w m (cv (g K) (g F)) = 0 → ∀ j, j < m → cv (g K) (g F) j = 0 := fun m => by
        induction m with
        | zero => intro _ j hj; omega
        | succ m ih =>
          intro e j hj
          have e : nW w m (cv (g K) (g F)) + (cv (g K) (g F) m).natAbs * w ^ m = 0 := e
          rcases Nat.lt_or_ge j m with c | c
          · exact ih (by omega) j c
          · have : j = m := by omega
            subst this
            have e2 : (cv (g K) (g F) j).natAbs * w ^ j = 0 := by omega
            rcases Nat.mul_eq_zero.mp e2 with q | q
            · omega
            · have := Nat.pow_pos (n := j) (show 0 < w by omega); omega
      rcases Nat.lt_or_ge i (n + 1) with c | c
      · exact hi (z _ (by omega) i c)
      · exact hi (above F hF i c)
    | succ N ih =>
      rintro F hF hN ⟨i, hi⟩
      have lF : (fdn X H F).length ≤ H.length - 1 := by unfold fdn; rw [List.length_map, List.length_range]; exact Nat.le_refl _
      have rel : ∀ i, X * cv (g K) (g (fdn X H F)) i - sh (cv (g K) (g (fdn X H F))) i = ev X H * cv (g K) (g F) i - ev X F * g (mulR K H) i := fun i => by
        have r1 := cv_lin (g K) (f := fun i => X * g (fdn X H F) i - sh (g (fdn X H F)) i) (h := g (fdn X H F)) (k := sh (g (fdn X H F))) (a := X) (b := -1) (fun i => by omega) i
        have r2 := cv_lin (g K) (f := fun i => X * g (fdn X H F) i - sh (g (fdn X H F)) i) (h := g F) (k := g H) (a := ev X H) (b := -ev X F) (fun i => by have := fdn_rel X hF i; grind) i
        rw [cv_sh] at r1
        rw [g_mul]
        grind
      have st := norm_step hw hX hR a0 (above F hF _ (Nat.le_refl _)) (above _ lF _ (Nat.le_refl _)) rel
      have ne : ∃ i, cv (g K) (g (fdn X H F)) i ≠ 0 := by
        refine Classical.byContradiction fun q => ?_
        have z : ∀ i, cv (g K) (g (fdn X H F)) i = 0 := fun i => Classical.byContradiction fun t => q ⟨i, t⟩
        have r : ∀ i, ev X H * cv (g K) (g F) i = ev X F * g (mulR K H) i := fun i => by
          have := rel i
          have s0 : sh (cv (g K) (g (fdn X H F))) i = 0 := by unfold sh; split; rfl; exact z _
          rw [z, s0] at this
          omega
        have f0 : ev X F = 0 := by
          have := r (n + 1)
          rw [above F hF _ (Nat.le_refl _), Int.mul_zero] at this
          rcases Int.mul_eq_zero.mp this.symm with t | t
          · exact t
          · exact absurd t a0
        have := r i
        rw [f0, Int.zero_mul] at this
        rcases Int.mul_eq_zero.mp this with t | t
        · exact h0 t
        · exact hi t
      refine ih (fdn X H F) lF ?_ ne
      generalize nW w (n + 1) (cv (g K) (g (fdn X H F))) = A at st
      generalize nW w (n + 1) (cv (g K) (g F)) = B at st hN
      rcases Nat.lt_or_ge N A with c | c
      · exfalso
        have b1 : (ev X H).natAbs * B ≤ (ev X H).natAbs * A := Nat.mul_le_mul_left _ (by omega)
        have b2 : ((ev X H).natAbs + w + 1) * A ≤ X.natAbs * A := Nat.mul_le_mul_right _ hc
        rw [Nat.add_mul, Nat.add_mul, Nat.one_mul] at b2
        omega
      · exact c
  refine key _ [1] (by simp; omega) (Nat.le_refl _) ⟨K.length - 1, ?_⟩
  have : cv (g K) (g [1]) (K.length - 1) = g K (K.length - 1) := by
    have := cv_top (f := g K) (h := g [1]) (n := K.length - 1) (m := 0) (fun i hi => g_none (by omega)) (fun i hi => g_none (by simp; omega))
    rw [Nat.add_zero] at this
    rw [this]
    show _ * (1 : Int) = _
    rw [Int.mul_one]
  rw [this]
  exact lk
end K03

set_option Elab.async false
set_option linter.all false
set_option maxRecDepth 100000
set_option maxHeartbeats 4000000
/-! Gauss: a row without a common divisor, and what divides a product -/
namespace K03
/-- the least divisor past 1 -/
theorem least_div : ∀ {c : Nat}, 1 < c → ∃ p, 1 < p ∧ p ∣ c ∧ ∀ q, 1 < q → q ∣ p → q = p := fun {c} => by
  induction c using Nat.strongRecOn with
  | ind c ih =>
    intro h
    by_cases e : ∃ q, 1 < q ∧ q ∣ c ∧ q ≠ c
    · obtain ⟨q, q1, qd, qn⟩ := e
      have ql : q < c := Nat.lt_of_le_of_ne (Nat.le_of_dvd (by omega) qd) qn
      obtain ⟨p, p1, pd, pm⟩ := ih q ql q1
      exact ⟨p, p1, Nat.dvd_trans pd qd, pm⟩
    · exact ⟨c, h, Nat.dvd_refl _, fun q q1 qd => Classical.byContradiction fun n => e ⟨q, q1, qd, n⟩⟩
theorem nd {p : Nat} {a : Int} : (p : Int) ∣ a ↔ p ∣ a.natAbs := by rw [← Int.natAbs_dvd_natAbs, Int.natAbs_natCast]
theorem prime_mul {p : Nat} (p1 : 1 < p) (pm : ∀ q, 1 < q → q ∣ p → q = p) {a b : Int} (h : (p : Int) ∣ a * b) : (p : Int) ∣ a ∨ (p : Int) ∣ b := by
  have h2 : p ∣ a.natAbs * b.natAbs := by rw [← Int.natAbs_mul]; exact nd.mp h
  rcases Nat.lt_or_ge 1 (Nat.gcd p a.natAbs) with c | c
  · have e := pm _ c (Nat.gcd_dvd_left ..)
    left
    refine nd.mpr ?_
    rw [← e]
    exact Nat.gcd_dvd_right ..
  · right
    have g0 : Nat.gcd p a.natAbs ≠ 0 := fun z => by
      have := (Nat.gcd_eq_zero_iff.mp z).1
      omega
    have g1 : Nat.Coprime p a.natAbs := by show Nat.gcd p a.natAbs = 1; omega
    exact nd.mpr (g1.dvd_of_dvd_mul_left h2)
/-- the first that is not divided -/
theorem first_not {P : Nat → Prop} (h : ∃ i, ¬ P i) : ∃ i, ¬ P i ∧ ∀ j, j < i → P j := by
  obtain ⟨i, hi⟩ := h
  induction i using Nat.strongRecOn with
  | ind i ih =>
    by_cases e : ∃ j, j < i ∧ ¬ P j
    · obtain ⟨j, hj, nj⟩ := e; exact ih j hj nj
    · exact ⟨i, hi, fun j hj => Classical.byContradiction fun n => e ⟨j, hj, n⟩⟩
theorem S_dvd {p : Int} {f : Nat → Int} : ∀ n, (∀ i, i < n → p ∣ f i) → p ∣ S n f
  | 0, _ => ⟨0, by simp [S]⟩
  | n + 1, h => by rw [S]; exact Int.dvd_add (S_dvd n fun i hi => h i (by omega)) (h n (by omega))
theorem S_split {f : Nat → Int} (k : Nat) : ∀ m, S (k + m) f = S k f + S m (fun i => f (k + i))
  | 0 => by simp [S]
  | m + 1 => by rw [← Nat.add_assoc, S, S_split k m, S]; omega
theorem gauss_p {p : Nat} (p1 : 1 < p) (pm : ∀ q, 1 < q → q ∣ p → q = p) {f h : Nat → Int} (hf : ∃ i, ¬ (p : Int) ∣ f i) (hd : ∀ k, (p : Int) ∣ cv f h k) (j : Nat) : (p : Int) ∣ h j := by
  refine Classical.byContradiction fun n => ?_
  obtain ⟨i, ni, li⟩ := first_not (P := fun i => (p : Int) ∣ f i) hf
  obtain ⟨j, nj, lj⟩ := first_not (P := fun j => (p : Int) ∣ h j) ⟨j, n⟩
  have d := hd (i + j)
  unfold cv at d
  rw [show i + j + 1 = i + (1 + j) by omega, S_split i, S_split 1] at d
  have d1 : (p : Int) ∣ S i fun a => f a * h (i + j - a) := S_dvd _ fun a ha => Int.dvd_trans (li a ha) ⟨_, rfl⟩
  have d2 : (p : Int) ∣ S j fun a => f (i + (1 + a)) * h (i + j - (i + (1 + a))) := S_dvd _ fun a ha => Int.dvd_trans (lj (i + j - (i + (1 + a))) (by omega)) ⟨f (i + (1 + a)), by rw [Int.mul_comm]⟩
  have e : S 1 (fun a => f (i + a) * h (i + j - (i + a))) = f i * h j := by
    show 0 + f (i + 0) * h (i + j - (i + 0)) = _
    rw [Nat.add_zero, Nat.add_sub_cancel_left, Int.zero_add]
  rw [e] at d
  have d3 : (p : Int) ∣ f i * h j := by
    obtain ⟨x, hx⟩ := d
    obtain ⟨y, hy⟩ := d1
    obtain ⟨z, hz⟩ := d2
    exact ⟨x - y - z, by rw [Int.mul_sub, Int.mul_sub, ← hx, ← hy, ← hz]; omega⟩
  rcases prime_mul p1 pm d3 with q | q
  · exact ni q
  · exact nj q
/-- f without a common divisor -/
def Lone (f : Nat → Int) : Prop := ∀ p : Nat, 1 < p → ∃ i, ¬ (p : Int) ∣ f i
theorem gauss {f : Nat → Int} (hf : Lone f) : ∀ (c : Nat), c ≠ 0 → ∀ h : Nat → Int, (∀ k, (c : Int) ∣ cv f h k) → ∀ j, (c : Int) ∣ h j := fun c => by
  induction c using Nat.strongRecOn with
  | ind c ih =>
    intro c0 h hd j
    rcases Nat.lt_or_ge 1 c with c1 | c1
    · obtain ⟨p, p1, ⟨c', hc⟩, pm⟩ := least_div c1
      have hp : ∀ j, (p : Int) ∣ h j := gauss_p p1 pm (hf p p1) fun k => Int.dvd_trans (by rw [hc, Int.natCast_mul]; exact ⟨_, rfl⟩) (hd k)
      have c'0 : c' ≠ 0 := fun z => by rw [z, Nat.mul_zero] at hc; exact c0 hc
      have cl : c' < c := by
        rw [hc]
        have := Nat.mul_lt_mul_of_lt_of_le p1 (Nat.le_refl c') (by omega)
        omega
      have hq : ∀ j, h j = (p : Int) * (h j / p) := fun j => (Int.mul_ediv_cancel' (hp j)).symm
      have hcv : ∀ k, cv f h k = (p : Int) * cv f (fun j => h j / p) k := fun k => by
        have := cv_lin f (f := h) (h := fun j => h j / p) (k := fun _ => 0) (a := (p : Int)) (b := 0) (fun i => by rw [Int.zero_mul, Int.add_zero]; exact hq i) k
        omega
      have := ih c' cl c'0 (fun j => h j / p) (fun k => by
        have d := hd k
        rw [hcv, hc, Int.natCast_mul] at d
        exact Int.dvd_of_mul_dvd_mul_left (by omega) d) j
      rw [hq j, hc, Int.natCast_mul]
      exact Int.mul_dvd_mul_left _ this
    · have : c = 1 := by omega
      subst this
      exact ⟨h j, by simp⟩
end K03

set_option Elab.async false
set_option linter.all false
set_option maxRecDepth 100000
set_option maxHeartbeats 4000000
/-! what is told by figures: no factor of higher degree is left over -/
namespace K03
/-- a cofactor of degree 1 and more has too great a value -/
theorem no_more {f H K : List Int} {X e : Int} {w : Nat} (hw : 1 ≤ w) (hX : 2 * (w : Int) < X) (lH : 2 ≤ H.length) (nH : g H (H.length - 1) ≠ 0) (lK : 1 ≤ K.length) (nK : g K (K.length - 1) ≠ 0) (hR : ∀ i, (g (mulR K H) i).natAbs ≤ w - 1)
    (hf : ev X f ≠ 0) (h0 : ev X H ≠ 0) (he : e ≠ 0) (heX : 2 * e.natAbs ≤ X.natAbs) (hd : ev X (mulR f H) ∣ e * ev X f) : False := by
  have fv := factor_val (X := X) (w := w) (n := K.length + H.length - 3) hw lH lK (by omega) nH nK (fun i _ => hR i) (by omega) h0
  rw [ev_mul, Int.mul_comm e] at hd
  have d : ev X H ∣ e := Int.dvd_of_mul_dvd_mul_left hf hd
  have d2 : (ev X H).natAbs ≤ e.natAbs := Nat.le_of_dvd (by omega) (Int.natAbs_dvd_natAbs.mpr d)
  omega
/-- a row that is a number times another one, both without a common divisor and with a head above 0 -/
theorem lone_one {f G : List Int} {c : Int} (lf : Lone (g f)) (lG : Lone (g G)) (okf : okR f) (okG : okR G) (e : ∀ k, g G k = c * g f k) (hf : 0 < g f (f.length - 1)) (hG : 0 ≤ g G (f.length - 1)) : G = f := by
  have c1 : c.natAbs = 1 := by
    rcases Nat.lt_or_ge 1 c.natAbs with z | z
    · obtain ⟨i, hi⟩ := lG c.natAbs z
      exact absurd (by rw [e]; exact Int.dvd_trans (Int.natAbs_dvd.mpr (Int.dvd_refl c)) ⟨_, rfl⟩) hi
    · rcases Nat.lt_or_ge 0 c.natAbs with y | y
      · omega
      · have c0 : c = 0 := by omega
        obtain ⟨i, hi⟩ := lG 2 (by decide)
        exact absurd ⟨0, by rw [e, c0]; simp⟩ hi
  have c2 : c = 1 := by
    have := e (f.length - 1)
    rcases (show c = 1 ∨ c = -1 by omega) with q | q
    · exact q
    · rw [q] at this; omega
  exact row_ext okG okf fun k => by rw [e, c2, Int.one_mul]
end K03

set_option Elab.async false
set_option linter.all false
set_option maxRecDepth 100000
set_option maxHeartbeats 4000000
/-! division with a rest, up to a number -/
namespace K03
def mono (s : Nat) : List Int := List.replicate s 0 ++ [1]
theorem ev_mono (x : Int) : ∀ s, ev x (mono s) = x ^ s
  | 0 => by show 1 + x * 0 = x ^ 0; rw [Int.pow_zero]; omega
  | s + 1 => by
    have ih := ev_mono x s
    show 0 + x * ev x (mono s) = _
    rw [ih, Int.pow_succ, Int.mul_comm]; omega
theorem g_mono (D : List Int) : ∀ (s i : Nat), g (mulR (mono s) D) (s + i) = g D i
  | 0, i => by
    show g (mulR [1] D) (0 + i) = _
    rw [Nat.zero_add, mulR, g_add, g_scl, mulR]
    have : g [0] i = 0 := by cases i <;> rfl
    rw [this]; omega
  | s + 1, i => by
    have ih := g_mono D s i
    show g (mulR (0 :: mono s) D) (s + 1 + i) = _
    rw [mulR, g_add, g_scl, show s + 1 + i = (s + i) + 1 by omega]
    show 0 * _ + g (mulR (mono s) D) (s + i) = _
    rw [ih]; omega
theorem pdiv {D : List Int} (okD : okR D) (nD : D ≠ []) : ∀ (n : Nat) (R : List Int), okR R → R.length ≤ n → ∃ (c : Int) (q r : List Int), c ≠ 0 ∧ okR r ∧ r.length < D.length ∧ ∀ x, c * ev x R = ev x q * ev x D + ev x r := fun n => by
  have lD : 0 < D.length := List.length_pos_iff.mpr nD
  induction n with
  | zero =>
    intro R hR hn
    have : R = [] := List.length_eq_zero_iff.mp (by omega)
    subst this
    exact ⟨1, [], [], by decide, hR, lD, fun x => by simp [ev]⟩
  | succ n ih =>
    intro R hR hn
    rcases Nat.lt_or_ge R.length D.length with c | c
    · exact ⟨1, [], R, by decide, hR, c, fun x => by simp [ev]⟩
    · have hb := okR_last okD nD
      generalize hbD : g D (D.length - 1) = b at hb
      generalize hs : R.length - D.length = s
      let R1 := trimI (addR (sclR b R) (sclR (-(g R (R.length - 1))) (mulR (mono s) D)))
      have len : R1.length ≤ n := by
        refine okR_len (okR_trim _) fun j hj => ?_
        show g (trimI _) j = 0
        rw [g_trim, g_add, g_scl, g_scl]
        rcases Nat.lt_or_ge j R.length with z | z
        · have : j = R.length - 1 := by omega
          subst this
          rw [show R.length - 1 = s + (D.length - 1) by omega, g_mono, hbD, ← show R.length - 1 = s + (D.length - 1) by omega]
          grind
        · rw [g_none (r := R) z, show j = s + (j - s) by omega, g_mono, g_none (r := D) (by omega)]
          simp
      obtain ⟨c1, q, r, c0, okr, lr, e⟩ := ih R1 (okR_trim _) len
      refine ⟨c1 * b, addR q (sclR (c1 * g R (R.length - 1)) (mono s)), r, Int.mul_ne_zero c0 hb, okr, lr, fun x => ?_⟩
      have e1 := e x
      have e2 : ev x R1 = b * ev x R + -(g R (R.length - 1)) * (x ^ s * ev x D) := by
        show ev x (trimI _) = _
        rw [ev_trim, ev_add, ev_scl, ev_scl, ev_mul, ev_mono]
      rw [e2] at e1
      rw [ev_add, ev_scl, ev_mono]
      grind
/-- of the rows U R + V S that are not 0 one of least length divides both -/
def Comb (R S D : List Int) : Prop := ∃ U V : List Int, ∀ x, ev x D = ev x U * ev x R + ev x V * ev x S
theorem least_comb {R S : List Int} (hR : okR R) (hS : okR S) (n0 : R ≠ []) : ∃ D, okR D ∧ D ≠ [] ∧ Comb R S D ∧ (∃ c q, c ≠ 0 ∧ ∀ x, c * ev x R = ev x q * ev x D) ∧ (∃ c q, c ≠ 0 ∧ ∀ x, c * ev x S = ev x q * ev x D) := by
  have start : ∃ D, okR D ∧ D ≠ [] ∧ Comb R S D := ⟨R, hR, n0, [1], [], fun x => by simp [ev]⟩
  have least : ∀ n (D : List Int), D.length ≤ n → okR D → D ≠ [] → Comb R S D → ∃ D, okR D ∧ D ≠ [] ∧ Comb R S D ∧ ∀ E : List Int, okR E → E ≠ [] → Comb R S E → D.length ≤ E.length := fun n => by
    induction n with
    | zero => intro D h _ nD _; exact absurd (List.length_eq_zero_iff.mp (by omega)) nD
    | succ n ih =>
      intro D h okD nD cD
      by_cases e : ∃ E : List Int, okR E ∧ E ≠ [] ∧ Comb R S E ∧ E.length < D.length
      · obtain ⟨E, a, b, c, d⟩ := e
        exact ih E (by omega) a b c
      · exact ⟨D, okD, nD, cD, fun E a b c => Classical.byContradiction fun z => e ⟨E, a, b, c, by omega⟩⟩
  obtain ⟨D0, a, b, c⟩ := start
  obtain ⟨D, okD, nD, ⟨U, V, hD⟩, lst⟩ := least _ D0 (Nat.le_refl _) a b c
  have div : ∀ T : List Int, okR T → Comb R S T → ∃ c q, c ≠ 0 ∧ ∀ x, c * ev x T = ev x q * ev x D := fun T okT ⟨U2, V2, hT⟩ => by
    obtain ⟨c, q, r, c0, okr, lr, e⟩ := pdiv okD nD _ T okT (Nat.le_refl _)
    have r0 : r = [] := Classical.byContradiction fun nr => by
      have := lst r okr nr ⟨addR (sclR c U2) (sclR (-1) (mulR q U)), addR (sclR c V2) (sclR (-1) (mulR q V)), fun x => by
        have e1 := e x
        have e2 := hT x
        have e3 := hD x
        rw [ev_add, ev_scl, ev_scl, ev_mul, ev_add, ev_scl, ev_scl, ev_mul]
        rw [e2, e3] at e1
        grind⟩
      omega
    subst r0
    exact ⟨c, q, c0, fun x => by have := e x; simpa [ev] using this⟩
  exact ⟨D, okD, nD, ⟨U, V, hD⟩, div R hR ⟨[1], [], fun x => by simp [ev]⟩, div S hS ⟨[], [1], fun x => by simp [ev]⟩⟩
end K03

set_option Elab.async false
set_option linter.all false
set_option maxRecDepth 100000
set_option maxHeartbeats 4000000
/-! whole equations, fewer than unknowns, have a small solution -/
namespace K03
theorem pigeon : ∀ (Q P : Nat) (f : Nat → Nat), (∀ t, t < P → f t < Q) → Q < P → ∃ s t, s < t ∧ t < P ∧ f s = f t
  | 0, P, f, h, l => absurd (h 0 l) (by omega)
  | Q + 1, P, f, h, l => by
    by_cases e : ∃ s, s < P - 1 ∧ f s = f (P - 1)
    · obtain ⟨s, hs, es⟩ := e
      exact ⟨s, P - 1, hs, by omega, es⟩
    · have ne : ∀ s, s < P - 1 → f s ≠ f (P - 1) := fun s hs z => e ⟨s, hs, z⟩
      have hv := h (P - 1) (by omega)
      obtain ⟨s, t, st, tP, eq⟩ := pigeon Q (P - 1) (fun t => if f t = Q then f (P - 1) else f t) (fun t ht => by
        have h1 := h t (by omega)
        have h2 := ne t ht
        show (if f t = Q then f (P - 1) else f t) < Q
        split <;> omega) (by omega)
      refine ⟨s, t, st, by omega, ?_⟩
      have n1 := ne s (by omega)
      have n2 := ne t tP
      have eq : (if f s = Q then f (P - 1) else f s) = (if f t = Q then f (P - 1) else f t) := eq
      split at eq <;> split at eq <;> omega
theorem dig_inj {b s t : Nat} : ∀ n, (∀ i, i < n → s / b ^ i % b = t / b ^ i % b) → s % b ^ n = t % b ^ n
  | 0, _ => by rw [Nat.pow_zero, Nat.mod_one, Nat.mod_one]
  | n + 1, h => by
    rw [Nat.mod_pow_succ, Nat.mod_pow_succ, dig_inj n fun i hi => h i (by omega), h n (by omega)]
theorem code_lt {Q : Nat} {w : Nat → Nat} : ∀ k, (∀ j, j < k → w j < Q) → sN (fun j => w j * Q ^ j) k < Q ^ k
  | 0, _ => by simp [sN]
  | k + 1, h => by
    have ih := code_lt k fun j hj => h j (by omega)
    have hk := h k (by omega)
    rw [sN, Nat.pow_succ]
    have : (w k + 1) * Q ^ k ≤ Q * Q ^ k := Nat.mul_le_mul_right _ hk
    rw [Nat.add_mul, Nat.one_mul] at this
    rw [Nat.mul_comm (Q ^ k) Q]
    omega
theorem code_inj {Q : Nat} {w u : Nat → Nat} : ∀ k, (∀ j, j < k → w j < Q) → (∀ j, j < k → u j < Q) → sN (fun j => w j * Q ^ j) k = sN (fun j => u j * Q ^ j) k → ∀ j, j < k → w j = u j
  | 0, _, _, _, j, hj => by omega
  | k + 1, h1, h2, e, j, hj => by
    have l1 := code_lt k fun j hj => h1 j (by omega)
    have l2 := code_lt k fun j hj => h2 j (by omega)
    rw [sN, sN] at e
    have p : 0 < Q ^ k := by omega
    have top : w k = u k := by
      have d1 : (sN (fun j => w j * Q ^ j) k + w k * Q ^ k) / Q ^ k = w k := by
        rw [Nat.add_mul_div_right _ _ p, Nat.div_eq_of_lt l1, Nat.zero_add]
      have d2 : (sN (fun j => u j * Q ^ j) k + u k * Q ^ k) / Q ^ k = u k := by
        rw [Nat.add_mul_div_right _ _ p, Nat.div_eq_of_lt l2, Nat.zero_add]
      rw [← d1, ← d2, e]
    rcases Nat.lt_or_ge j k with c | c
    · refine code_inj k (fun j hj => h1 j (by omega)) (fun j hj => h2 j (by omega)) ?_ j c
      rw [top] at e
      omega
    · have : j = k := by omega
      rw [this]; exact top
theorem S_abs {f : Nat → Int} {C : Nat} : ∀ n, (∀ i, i < n → (f i).natAbs ≤ C) → (S n f).natAbs ≤ n * C
  | 0, _ => by simp [S]
  | n + 1, h => by
    have ih := S_abs n fun i hi => h i (by omega)
    have hn := h n (by omega)
    rw [S, Nat.add_mul, Nat.one_mul]
    have := Int.natAbs_add_le (S n f) (f n)
    omega
theorem S_sub {f h : Nat → Int} : ∀ n, S n (fun i => f i - h i) = S n f - S n h
  | 0 => by simp [S]
  | n + 1 => by rw [S, S, S, S_sub n]; omega
theorem siegel {n k A : Nat} {M : Nat → Nat → Int} (hk : k < n) (hA : 1 ≤ A) (hM : ∀ i j, i < n → j < k → (M i j).natAbs ≤ A) :
    ∃ v : Nat → Int, (∃ i, i < n ∧ v i ≠ 0) ∧ (∀ i, (v i).natAbs ≤ (2 * n * A) ^ k) ∧ ∀ j, j < k → S n (fun i => v i * M i j) = 0 := by
  generalize hC : 2 * n * A = C
  have hnA : 2 * n ≤ C := by rw [← hC]; exact Nat.le_mul_of_pos_right _ hA
  generalize hB : C ^ k = B
  have c1 : 1 ≤ C := by omega
  let D := n * (B * A)
  let dg : Nat → Nat → Nat := fun t i => t / (B + 1) ^ i % (B + 1)
  have dgB : ∀ t i, dg t i ≤ B := fun t i => Nat.le_of_lt_succ (Nat.mod_lt _ (by omega))
  let val : Nat → Nat → Int := fun t j => S n fun i => (dg t i : Int) * M i j
  have vb : ∀ t j, j < k → (val t j).natAbs ≤ D := fun t j hj => S_abs n fun i hi => by
    rw [Int.natAbs_mul, Int.natAbs_natCast]
    exact Nat.mul_le_mul (dgB t i) (hM i j hi hj)
  let w : Nat → Nat → Nat := fun t j => (val t j + D).toNat
  have wQ : ∀ t j, j < k → w t j < 2 * D + 1 := fun t j hj => by
    have := vb t j hj
    show (val t j + D).toNat < _
    omega
  have cnt : (2 * D + 1) ^ k < (B + 1) ^ n := by
    have h1 : 2 * D + 1 ≤ C * (B + 1) := by
      have : 2 * D = C * B := by show 2 * (n * (B * A)) = _; rw [← hC]; grind
      rw [Nat.mul_add, this]; omega
    have h2 : (2 * D + 1) ^ k ≤ (C * (B + 1)) ^ k := Nat.pow_le_pow_left h1 k
    rw [Nat.mul_pow, hB] at h2
    have h3 : B * (B + 1) ^ k < (B + 1) * (B + 1) ^ k := Nat.mul_lt_mul_of_pos_right (by omega) (Nat.pow_pos (by omega))
    have h4 : (B + 1) * (B + 1) ^ k = (B + 1) ^ (k + 1) := by rw [Nat.pow_succ, Nat.mul_comm]
    have h5 : (B + 1) ^ (k + 1) ≤ (B + 1) ^ n := Nat.pow_le_pow_right (by omega) hk
    omega
  obtain ⟨s, t, st, tP, eq⟩ := pigeon ((2 * D + 1) ^ k) ((B + 1) ^ n) (fun t => sN (fun j => w t j * (2 * D + 1) ^ j) k) (fun t _ => code_lt k (wQ t)) cnt
  have same := code_inj k (wQ s) (wQ t) eq
  refine ⟨fun i => (dg s i : Int) - (dg t i : Int), ?_, fun i => ?_, fun j hj => ?_⟩
  · refine Classical.byContradiction fun no => ?_
    have all : ∀ i, i < n → s / (B + 1) ^ i % (B + 1) = t / (B + 1) ^ i % (B + 1) := fun i hi => by
      have : ¬ ((dg s i : Int) - (dg t i : Int) ≠ 0) := fun z => no ⟨i, hi, z⟩
      show dg s i = dg t i
      omega
    have := dig_inj n all
    rw [Nat.mod_eq_of_lt (by omega), Nat.mod_eq_of_lt tP] at this
    omega
  · have := dgB s i
    have := dgB t i
    show ((dg s i : Int) - (dg t i : Int)).natAbs ≤ B
    omega
  · have e := same j hj
    have b1 := vb s j hj
    have b2 := vb t j hj
    have e : (val s j + D).toNat = (val t j + D).toNat := e
    have ev : val s j = val t j := by omega
    have : S n (fun i => ((dg s i : Int) - (dg t i : Int)) * M i j) = val s j - val t j := by
      show _ = S n _ - S n _
      rw [← S_sub]
      exact S_ext n fun i _ => by grind
    rw [this, ev]; omega
end K03

set_option Elab.async false
set_option linter.all false
set_option maxRecDepth 100000
set_option maxHeartbeats 4000000
local macro_rules | `(tactic| walk_at "rd") => `(tactic| dsimp only [Evl.tCut, L2.tSeq, L2.tNext, L2.tRet, L2.tRetN, L2.tAsg, L2.gName, L2.tIfS, L2.tDrop, L2.tCons, L2.tNil, L2.tC, L2.tVar, L2.tCB, L2.tAndV, L2.tOrV, L2.tNotV, L2.tB, L2.tTest, L2.tOp, L2.tUn, L2.tNot, L2.tAnd, L2.tOr, L2.tIf, L2.tCall, L2.tTup, L2.tLst, L2.tNotT, L2.tYes, L2.gTup, L2.gCons, L2.gNil, L2.gSub, L2.tBM0, L2.tBM, L2.tWhile, L2.tFor, L2.iRng1, L2.iRng2, L2.tAugS, Tw.iEnumT, L2.tCKw, L2.tAug, L2.ipI, RT.iRevA, L2.tPar, L2.tPar3, L2.tSl, L2.tNoPart, L2.tPart, Tw.tRevT])
namespace K03
open PySem PySem.Spec PyProof.Rows L2 Tw
/-- a loop over a tuple, its body already read -/
theorem for_tup {K : PySem.W.Frag} {a : Addr} {xs : List V} {B : (L2.St → Hp → Prop) → V → L2.St → Hp → Prop} {nx : L2.St → Hp → Prop} {σ : L2.St} {H : Hp} (Pv : Nat → L2.St → Hp → Prop) (h0 : Pv 0 σ H)
    (hl : ∀ i σ' H', i ≤ xs.length → Pv i σ' H' → SqT K H' a xs)
    (hs : ∀ (i : Nat) x σ' H', xs[i]? = some x → Pv i σ' H' → B (Pv (i + 1)) x σ' H') (hd : ∀ σ' H', Pv xs.length σ' H' → nx σ' H') :
    ∃ W : Nat → Nat → L2.St → Hp → Prop, (∃ m, W 0 m σ H) ∧ ∀ i m σ H, W i m σ H →
      ((Itt K a).stop i H ∧ nx σ H) ∨ ((Itt K a).go i H ∧ ∃ N : L2.St → Hp → Prop, (∀ σ' H', N σ' H' → ∃ m', m' < m ∧ W (i + 1) m' σ' H') ∧ ∀ x H', (Itt K a).yld i H x H' → B N x σ H') := by
  refine ⟨fun i m σ H => m = xs.length - i ∧ i ≤ xs.length ∧ Pv i σ H, ⟨xs.length, by simp, Nat.zero_le _, h0⟩, ?_⟩
  rintro i m σ' H' ⟨rfl, hi, p⟩
  have ql := hl i σ' H' hi p
  by_cases c : i < xs.length
  · refine Or.inr ⟨⟨xs, xs[i], ql, by simp [c]⟩, Pv (i + 1), fun σ2 H2 p2 => ⟨xs.length - (i + 1), by omega, rfl, c, p2⟩, fun x H2 y => ?_⟩
    obtain ⟨e1, e2⟩ := y
    subst e1
    exact hs i x σ' _ (e2 xs ql) p
  · have e : i = xs.length := by omega
    subst e
    exact Or.inl ⟨⟨xs, ql, Nat.le_refl _⟩, hd σ' H' p⟩
/-- a loop over a tuple turned round, its body already read -/
theorem for_rev {K : PySem.W.Frag} {a : Addr} {xs : List V} {B : (L2.St → Hp → Prop) → V → L2.St → Hp → Prop} {nx : L2.St → Hp → Prop} {σ : L2.St} {H : Hp} (Pv : Nat → L2.St → Hp → Prop) (h0 : Pv 0 σ H)
    (hl : ∀ i σ' H', i ≤ xs.length → Pv i σ' H' → SqT K H' a xs)
    (hs : ∀ (i : Nat) x σ' H', i < xs.length → xs[xs.length - 1 - i]? = some x → Pv i σ' H' → B (Pv (i + 1)) x σ' H') (hd : ∀ σ' H', Pv xs.length σ' H' → nx σ' H') :
    ∃ W : Nat → Nat → L2.St → Hp → Prop, (∃ m, W 0 m σ H) ∧ ∀ i m σ H, W i m σ H →
      ((RT.ItvT K a xs.length).stop i H ∧ nx σ H) ∨ ((RT.ItvT K a xs.length).go i H ∧ ∃ N : L2.St → Hp → Prop, (∀ σ' H', N σ' H' → ∃ m', m' < m ∧ W (i + 1) m' σ' H') ∧ ∀ x H', (RT.ItvT K a xs.length).yld i H x H' → B N x σ H') := by
  refine ⟨fun i m σ H => m = xs.length - i ∧ i ≤ xs.length ∧ Pv i σ H, ⟨xs.length, by simp, Nat.zero_le _, h0⟩, ?_⟩
  rintro i m σ' H' ⟨rfl, hi, p⟩
  have ql := hl i σ' H' hi p
  by_cases c : i < xs.length
  · have hx : xs.length - 1 - i < xs.length := by omega
    refine Or.inr ⟨⟨c, xs, xs[xs.length - 1 - i], ql, List.getElem?_eq_getElem hx⟩, Pv (i + 1), fun σ2 H2 p2 => ⟨xs.length - (i + 1), by omega, rfl, c, p2⟩, fun x H2 y => ?_⟩
    obtain ⟨e1, e2⟩ := y
    subst e1
    exact hs i x σ' _ c (e2 xs ql) p
  · have e : i = xs.length := by omega
    subst e
    exact Or.inl ⟨Nat.le_refl _, hd σ' H' p⟩
theorem drop_top {r : List Int} {k : Nat} (h : k < r.length) : r.drop (r.length - (k + 1)) = r[r.length - 1 - k] :: r.drop (r.length - k) := by
  have e : r.length - (k + 1) = r.length - 1 - k := by omega
  rw [e, List.drop_eq_getElem_cons (by omega)]
  congr 2
  omega
theorem sl_row {K : PySem.W.Frag} {H : Hp} {p : Addr} {r : List Int} {lo : Int} {Q : VK} (k : Nat) (hk : lo = (k : Int)) (e : H p = some (.tup (r.map V.int))) (q : ∀ z H', Same H H' → H' z = some (.tup ((r.drop k).map V.int)) → Q (.ref z) H') : rSlA K (.ref p) (some lo) none H Q := by
  subst hk
  have el : (r.map V.int).length = r.length := List.length_map _
  refine ⟨p, r.map V.int, rfl, SqT.of e, fun c => ?_, fun c t nt => ?_⟩
  · refine q p H (Same.refl _) ?_
    have c1 := c.1
    rw [HT.sIx_nat, el] at c1
    rcases Nat.eq_zero_or_pos r.length with z | z
    · have : r = [] := List.eq_nil_of_length_eq_zero z
      subst this
      simpa using e
    · rw [show k = 0 from by omega, List.drop_zero]
      exact e
  · refine q t _ (same_new nt) ?_
    rw [upd_same]
    unfold L2.cutV
    rw [HT.sIx_nat, HT.sIx_none, el, List.map_drop]
    congr 2
    rcases Nat.lt_or_ge k r.length with z | z
    · rw [Nat.min_eq_left (by omega), List.take_of_length_le (by rw [List.length_drop, el]; omega)]
    · rw [Nat.min_eq_right z, List.drop_of_length_le (by rw [el]; omega), List.drop_of_length_le (by rw [el]; exact z)]
      simp
def primeI (r : List Int) : List Int := if 0 < g r (r.length - 1) ∨ r = [] then r.map (fun c => c / (G 0 r : Int)) else r.map (fun c => 0 - c / (G 0 r : Int))
theorem G_pos {r : List Int} (ok : okR r) (ne : r ≠ []) : 0 < G 0 r := by
  have h := okR_last ok ne
  have hl : r.length - 1 < r.length := by have := List.length_pos_iff.mpr ne; omega
  have hd := G_mem (y := r[r.length - 1]) r 0 (List.getElem_mem hl)
  rw [g_some hl] at h
  exact Nat.pos_of_ne_zero fun z => by
    rw [z] at hd
    have := Nat.eq_zero_of_zero_dvd hd
    omega
theorem G_le {r : List Int} {b : Nat} (ok : okR r) (ne : r ≠ []) (hb : ∀ c ∈ r, c.natAbs ≤ b) : G 0 r ≤ b := by
  have h := okR_last ok ne
  have hl : r.length - 1 < r.length := by have := List.length_pos_iff.mpr ne; omega
  have hd := G_mem (y := r[r.length - 1]) r 0 (List.getElem_mem hl)
  rw [g_some hl] at h
  exact Nat.le_trans (Nat.le_of_dvd (by omega) hd) (hb _ (List.getElem_mem hl))
theorem G_int {r : List Int} {c : Int} (h : c ∈ r) : (G 0 r : Int) ∣ c := Int.ofNat_dvd_left.mpr (G_mem r 0 h)
theorem okR_primeI {r : List Int} (ok : okR r) : okR (primeI r) := fun c hc => by
  rcases Classical.em (r = []) with e | ne
  · subst e
    simp [primeI] at hc
  · have h := okR_last ok ne
    have hl : r.length - 1 < r.length := by have := List.length_pos_iff.mpr ne; omega
    rw [g_some hl] at h
    have dv := G_int (List.getElem_mem hl)
    have g0 := G_pos ok ne
    have q0 : r[r.length - 1] / (G 0 r : Int) ≠ 0 := fun z => by
      have := Int.ediv_mul_cancel dv
      rw [z, Int.zero_mul] at this
      exact h this.symm
    have last : ∀ f : Int → Int, (r.map f).getLast? = some (f r[r.length - 1]) := fun f => by
      rw [List.getLast?_eq_getElem?, List.length_map, List.getElem?_map, List.getElem?_eq_getElem hl]
      rfl
    unfold primeI at hc
    split at hc
    · rw [last] at hc; cases hc; exact q0
    · rw [last] at hc
      cases hc
      show 0 - r[r.length - 1] / (G 0 r : Int) ≠ 0
      omega
theorem len_primeI (r : List Int) : (primeI r).length = r.length := by
  unfold primeI
  split <;> exact List.length_map _
theorem le_primeI {r : List Int} {b : Nat} (hb : ∀ c ∈ r, c.natAbs ≤ b) : ∀ c ∈ primeI r, c.natAbs ≤ b := fun c hc => by
  unfold primeI at hc
  split at hc
  · obtain ⟨x, hx, rfl⟩ := List.mem_map.mp hc
    exact Nat.le_trans (Int.natAbs_ediv_le_natAbs _ _) (hb x hx)
  · obtain ⟨x, hx, rfl⟩ := List.mem_map.mp hc
    have := Nat.le_trans (Int.natAbs_ediv_le_natAbs x (G 0 r : Int)) (hb x hx)
    omega
theorem fdiv_pos {c G : Int} (h : 0 < G) : c.fdiv G = c / G := Int.fdiv_eq_ediv_of_nonneg c (by omega)
theorem fdiv_neg {c G : Int} (h : 0 < G) (d : G ∣ c) : c.fdiv (-G) = 0 - c / G := by
  obtain ⟨q, rfl⟩ := d
  rw [Int.mul_ediv_cancel_left _ (by omega), show G * q = (-G) * (-q) from by grind, Int.mul_fdiv_cancel_left _ (by omega)]
  omega
def spThin : Sp := fun vs H Q _ => ∃ u r, vs = [u] ∧ Ro H u r ∧ okR r ∧ r.length ≤ 100 ∧ ∀ z H', Same H H' → Ro H' z (r.map fun c => c / (G 0 r : Int)) → Q z H'
def spPrime : Sp := fun vs H Q _ => ∃ u r, vs = [u] ∧ Ro H u r ∧ okR r ∧ r.length ≤ 100 ∧ ∀ z H', Same H H' → Ro H' z (primeI r) → Q z H'
section
variable {P : Program} {w : World} {K : PySem.W.Frag} {mg : Str → Option Value} {base : Heap}
theorem scThin : FnScope ["_law_line_here", "_law_far", "_law_each"] ["_law_line_here"] (defScope sThin) := ⟨rfl, rfl, rfl, by decide +kernel, rfl, by decide +kernel, by decide +kernel⟩
theorem ok_thin (D : Def K mg "_law_thin" sThin ["_law_line_here"]) (nb : Nb mg) (hN : base.NoSeer) (ht : P.given.tree = none) (c1 : Cal P w K mg base "_law_common" 1 ["_law_one", "_law_two"] spCommon) : Cal P w K mg base "_law_thin" 33 ["_law_line_here"] spThin := by
  refine D.ok scThin (fun vs H Q E h => ?_) (fun f cdv A out s H vs Q E hr h => ?_)
  · obtain ⟨u, r, rfl, _⟩ := h; rfl
  obtain ⟨u, r, rfl, hu, okr, lr, q⟩ := h
  refine ⟨_, pss_cons (ps_set (i := 1) scThin.nd rfl (Or.inr rfl) pe_int)
    (pss_cons (ps_for PassesOwn.never rfl (pi_tup (pv 0)) (pg_name (i := 2) scThin.nd rfl (Or.inl rfl))
      (pss_one (ps_set (i := 1) scThin.nd rfl (Or.inr rfl) (pe_cal c1 hr (by decide) (by rfl) (pa_cons (pv 1) (pa_cons (pv 2) pa_nil))))))
    (pss_one (ps_ret (pe_callTy (T := "tuple") call_tuple_of (by rfl) nb.tup (by decide +kernel) (pa_cons (pe_lc (own := [("_law_each", 2)]) (g := gName 2) (tt := tYes) rfl scThin.nd (pi_tup (pv 0)) (blkOk_by (N := ["_law_line_here", "_law_far", "_law_each"]) (sc := defScope sThin) (by decide +kernel))
        (fun _ _ _ _ _ => pg_name (i := 2) scThin.nd rfl (Or.inl rfl)) (fun _ _ _ _ _ => pts_nil) (fun _ _ _ _ _ => pe_op (op_fdivP (se_mk hN ht rfl ⟨rfl, rfl, rfl, rfl⟩) hr (by omega)) (pv 2) (pv 1))) pa_nil))))), ?_⟩
  walk_at "rd"
  obtain ⟨pu, rfl, eu⟩ := hu
  refine ⟨.ref pu, rfl, pu, rfl, ⟨_, SqT.of eu⟩, for_tup (xs := r.map V.int) (fun i σ H' => ∃ (x2 : Option V), σ = [some (.ref pu), some (.int (G 0 (r.take i) : Nat)), x2] ∧ Same H H') ?_ ?_ ?_ ?_⟩
  · exact ⟨none, rfl, Same.refl _⟩
  · rintro i σ H1 hi ⟨x2, rfl, s1⟩
    exact SqT.of (s1 _ _ eu)
  · rintro i x σ H1 hx ⟨x2, rfl, s1⟩
    rw [List.getElem?_map] at hx
    cases hl : r[i]? with
    | none => rw [hl] at hx; cases hx
    | some c =>
      rw [hl] at hx
      cases hx
      have eg : Nat.gcd (G 0 (r.take i)) c.natAbs = G 0 (r.take (i + 1)) := by
        rw [List.take_add_one, hl]
        exact (G_append _ _ _).symm
      refine ⟨_, rfl, .int c, rfl, _, c, rfl, fun H2 s2 => ⟨some (.int c), ?_, s1.trans s2⟩⟩
      rw [Int.natAbs_natCast, eg]
      rfl
  · rintro σ H1 ⟨x2, rfl, s1⟩
    rw [List.length_map, List.take_length]
    refine lc_relT (S := fun _ v k => v = V.int k) (R := fun _ v k => v = V.int k) (g := fun x => x / (G 0 r : Int)) (rs := r) (p := pu) (xs := r.map V.int) (stable_eq _) (stable_eq _) rfl (s1 _ _ eu) (RelA.of_map _) (by omega) (fun x => wipeJ _ _ _) (fun x d H2 hd s2 rx Z hZ => ?_) fun L ys H2 s2 nL eL ry => ?_
    · subst rx
      have ne : r ≠ [] := fun z => by rw [z] at hd; cases hd
      have g0 := G_pos okr ne
      exact ⟨.int d, rfl, .int _, rfl, _, _, rfl, rfl, by omega, by show Z (.int (d.fdiv _)) H2; rw [fdiv_pos (by omega)]; exact hZ _ _ (Same.refl _) rfl⟩
    · have ey := RelA.eq_map ry
      refine ⟨L, _, rfl, .inl ⟨SqL.of eL, fun t nt => ?_⟩⟩
      exact q _ _ ((s1.trans s2).trans (same_new nt)) ⟨t, rfl, by rw [upd_same, ey]⟩
end
end K03

set_option Elab.async false
set_option linter.all false
set_option maxRecDepth 100000
set_option maxHeartbeats 4000000
/-! what divides rows; the common row -/
namespace K03
theorem ev_g {a b : List Int} (h : ∀ x, ev x a = ev x b) (k : Nat) : g a k = g b k := by
  have : trimI a = trimI b := ev_inj (okR_trim a) (okR_trim b) fun x => by rw [ev_trim, ev_trim, h x]
  rw [← g_trim a, this, g_trim]
theorem ok_of_top {a : List Int} (h : g a (a.length - 1) ≠ 0) : okR a := fun c hc => by
  rw [List.getLast?_eq_getElem?] at hc
  have hl := (List.getElem?_eq_some_iff.mp hc).1
  rw [g_some hl] at h
  rw [List.getElem?_eq_getElem hl] at hc
  cases hc
  exact h
theorem top_mul {a b : List Int} (oka : okR a) (okb : okR b) (na : a ≠ []) (nb : b ≠ []) : g (mulR a b) (a.length - 1 + (b.length - 1)) = g a (a.length - 1) * g b (b.length - 1) := by
  rw [g_mul]
  exact cv_top (fun i hi => g_none (by omega)) (fun i hi => g_none (by omega))
theorem len_mul {a b : List Int} (oka : okR a) (okb : okR b) (na : a ≠ []) (nb : b ≠ []) : (trimI (mulR a b)).length + 1 = a.length + b.length := by
  have la : 0 < a.length := List.length_pos_iff.mpr na
  have lb : 0 < b.length := List.length_pos_iff.mpr nb
  have up : (trimI (mulR a b)).length ≤ a.length + b.length - 1 := okR_len (okR_trim _) fun j hj => by
    rw [g_trim]; exact mul_above (by omega)
  have t : g (trimI (mulR a b)) (a.length - 1 + (b.length - 1)) ≠ 0 := by
    rw [g_trim, top_mul oka okb na nb]
    exact Int.mul_ne_zero (okR_last oka na) (okR_last okb nb)
  rcases Nat.lt_or_ge (a.length - 1 + (b.length - 1)) (trimI (mulR a b)).length with c | c
  · omega
  · exact absurd (g_none c) t
/-- D divides R -/
def Dv (D R : List Int) : Prop := ∃ q : List Int, ∀ x, ev x R = ev x q * ev x D
theorem ev_nil (x : Int) : ev x [] = 0 := rfl
theorem nil_of {R : List Int} (h : okR R) (z : ∀ x, ev x R = 0) : R = [] := ev_inj h okR_nil fun x => by rw [z x]; rfl
theorem Dv.fac {D R : List Int} (h : Dv D R) (okD : okR D) (nD : D ≠ []) (okR_ : okR R) (nR : R ≠ []) : ∃ q, okR q ∧ q ≠ [] ∧ R.length + 1 = q.length + D.length ∧ (∀ x, ev x R = ev x q * ev x D) ∧ ∀ k, g R k = cv (g q) (g D) k := by
  obtain ⟨q, hq⟩ := h
  have e : ∀ x, ev x R = ev x (trimI q) * ev x D := fun x => by rw [ev_trim]; exact hq x
  have nq : trimI q ≠ [] := fun z => nR (nil_of okR_ fun x => by rw [e x, z, ev_nil, Int.zero_mul])
  have r : R = trimI (mulR (trimI q) D) := ev_inj okR_ (okR_trim _) fun x => by rw [ev_trim, ev_mul]; exact e x
  refine ⟨trimI q, okR_trim q, nq, ?_, e, fun k => ?_⟩
  · have := len_mul (okR_trim q) okD nq nD
    rw [← r] at this
    omega
  · rw [← g_mul, ← g_trim (mulR _ _), ← r]
theorem Dv.refl (D : List Int) : Dv D D := ⟨[1], fun x => by show _ = (1 + x * 0) * _; grind⟩
theorem Dv.nil (D : List Int) : Dv D [] := ⟨[], fun x => by simp [ev]⟩
theorem Dv.trans {A B C : List Int} (h : Dv A B) (k : Dv B C) : Dv A C := by
  obtain ⟨q, hq⟩ := h
  obtain ⟨p, hp⟩ := k
  exact ⟨mulR p q, fun x => by rw [hp, hq, ev_mul]; grind⟩
theorem Dv.at {A B : List Int} (h : Dv A B) (x : Int) : ev x A ∣ ev x B := by
  obtain ⟨q, hq⟩ := h
  exact ⟨ev x q, by rw [hq, Int.mul_comm]⟩
theorem ev_map (x : Int) (f : Int → Int) {c : Int} : ∀ {r : List Int}, (∀ y ∈ r, y = c * f y) → ev x r = c * ev x (r.map f)
  | [], _ => by simp [ev]
  | y :: r, e => by
    have ih := ev_map x f (r := r) fun z hz => e z (by simp [hz])
    have e0 := e y (by simp)
    show y + x * ev x r = c * (f y + x * ev x (r.map f))
    rw [ih, Int.mul_add, ← e0]
    grind
/-- Gauss for rows -/
theorem dv_gauss {D R q : List Int} {c : Int} (lD : Lone (g D)) (c0 : c ≠ 0) (h : ∀ x, c * ev x R = ev x q * ev x D) : Dv D R := by
  have e : ∀ k, c * g R k = cv (g D) (g q) k := fun k => by
    have := ev_g (a := sclR c R) (b := mulR q D) (fun x => by rw [ev_scl, ev_mul]; exact h x) k
    rw [g_scl, g_mul, cv_comm] at this
    exact this
  have d := gauss lD c.natAbs (by omega) (g q) (fun k => by rw [← e]; exact Int.dvd_trans (Int.natAbs_dvd.mpr (Int.dvd_refl c)) ⟨_, rfl⟩)
  have d2 : ∀ y ∈ q, y = c * (y / c) := fun y hy => by
    obtain ⟨i, hi, hy⟩ := List.getElem_of_mem hy
    have := d i
    rw [g_some hi, hy] at this
    exact (Int.mul_ediv_cancel' (Int.natAbs_dvd.mp this)).symm
  refine ⟨q.map (· / c), fun x => ?_⟩
  have := h x
  rw [ev_map x (· / c) (c := c) d2, Int.mul_assoc] at this
  exact Int.eq_of_mul_eq_mul_left c0 this
/-- the product of two rows without a common divisor has none -/
theorem lone_mul {a b : Nat → Int} (ha : Lone a) (hb : Lone b) : Lone (cv a b) := fun p p1 => by
  refine Classical.byContradiction fun no => ?_
  have all : ∀ k, (p : Int) ∣ cv a b k := fun k => Classical.byContradiction fun z => no ⟨k, z⟩
  have := gauss ha p (by omega) b all
  obtain ⟨i, hi⟩ := hb p p1
  exact hi (this i)
/-! the prime part -/
theorem g_memx {r : List Int} {k : Nat} (h : k < r.length) : g r k ∈ r := by rw [g_some h]; exact List.getElem_mem h
theorem prime_rel {r : List Int} (ok : okR r) (ne : r ≠ []) : ∃ d : Int, d ≠ 0 ∧ d.natAbs = G 0 r ∧ (0 < d ↔ 0 < g r (r.length - 1)) ∧ ∀ k, g r k = d * g (primeI r) k := by
  have g0 := G_pos ok ne
  have dv : ∀ k, (G 0 r : Int) ∣ g r k := fun k => by
    rcases Nat.lt_or_ge k r.length with c | c
    · exact G_int (g_memx c)
    · rw [g_none c]; exact ⟨0, by simp⟩
  have hl := okR_last ok ne
  unfold primeI
  split
  next c =>
    have c : 0 < g r (r.length - 1) := c.resolve_right ne
    refine ⟨(G 0 r : Int), by omega, by omega, ⟨fun _ => c, fun _ => by omega⟩, fun k => ?_⟩
    have : g (r.map fun c => c / (G 0 r : Int)) k = g r k / (G 0 r : Int) := by
      unfold g
      rw [List.getD_eq_getElem?_getD, List.getD_eq_getElem?_getD, List.getElem?_map]
      cases r[k]? <;> simp
    rw [this]
    exact (Int.mul_ediv_cancel' (dv k)).symm
  next c =>
    have c : ¬ (0 < g r (r.length - 1)) := fun z => c (.inl z)
    refine ⟨-(G 0 r : Int), by omega, by omega, ⟨fun z => by omega, fun z => absurd z c⟩, fun k => ?_⟩
    have : g (r.map fun c => 0 - c / (G 0 r : Int)) k = 0 - g r k / (G 0 r : Int) := by
      unfold g
      rw [List.getD_eq_getElem?_getD, List.getD_eq_getElem?_getD, List.getElem?_map]
      cases r[k]? <;> simp
    rw [this]
    have := Int.mul_ediv_cancel' (dv k)
    generalize g r k / (G 0 r : Int) = z at this ⊢
    rw [← this]
    grind
theorem prime_ne {r : List Int} (ne : r ≠ []) : primeI r ≠ [] := fun z => ne (List.length_eq_zero_iff.mp (by rw [← len_primeI r, z]; rfl))
theorem prime_pos {r : List Int} (ok : okR r) (ne : r ≠ []) : 0 < g (primeI r) ((primeI r).length - 1) := by
  obtain ⟨d, d0, _, ds, e⟩ := prime_rel ok ne
  rw [len_primeI]
  have h := okR_last (okR_primeI ok) (prime_ne ne)
  rw [len_primeI] at h
  have e := e (r.length - 1)
  have hl := okR_last ok ne
  generalize g r (r.length - 1) = y at e ds hl
  generalize g (primeI r) (r.length - 1) = z at e h ⊢
  rcases Int.lt_or_gt_of_ne d0 with c | c
  · have : ¬ (0 < y) := fun q => by have := ds.mpr q; omega
    rcases Int.lt_or_gt_of_ne h with t | t
    · exfalso
      have := Int.mul_pos_of_neg_of_neg c t
      omega
    · exact t
  · have := ds.mp c
    rcases Int.lt_or_gt_of_ne h with t | t
    · exfalso
      have := Int.mul_neg_of_pos_of_neg c t
      omega
    · exact t
theorem G_lone {r : List Int} (ok : okR r) (ne : r ≠ []) : Lone (g (primeI r)) := fun p p1 => by
  obtain ⟨d, d0, dG, _, e⟩ := prime_rel ok ne
  refine Classical.byContradiction fun no => ?_
  have all : ∀ k, (p : Int) ∣ g (primeI r) k := fun k => Classical.byContradiction fun z => no ⟨k, z⟩
  have key : ∀ (l : List Int) (M : Nat), (p * G 0 r) ∣ M → (∀ y ∈ l, ((p * G 0 r : Nat) : Int) ∣ y) → (p * G 0 r) ∣ G M l := fun l => by
    induction l with
    | nil => intro M h _; exact h
    | cons y l ih =>
      intro M h h2
      show _ ∣ G (Nat.gcd M y.natAbs) l
      refine ih _ (Nat.dvd_gcd h ?_) fun z hz => h2 z (by simp [hz])
      exact nd.mp (h2 y (by simp))
  have := key r 0 ⟨0, by simp⟩ (fun y hy => by
    obtain ⟨i, hi, hy⟩ := List.getElem_of_mem hy
    rw [← hy, ← g_some hi, e i, Int.natCast_mul, Int.mul_comm]
    refine Int.mul_dvd_mul ?_ (all i)
    exact Int.natAbs_dvd_natAbs.mp (by rw [Int.natAbs_natCast, dG]; exact Nat.dvd_refl _))
  have g0 := G_pos ok ne
  have := Nat.le_of_dvd g0 this
  have : 1 * G 0 r < p * G 0 r := Nat.mul_lt_mul_of_pos_right p1 g0
  omega
theorem prime_ev {r : List Int} (ok : okR r) (ne : r ≠ []) : ∃ d : Int, d ≠ 0 ∧ d.natAbs = G 0 r ∧ ∀ x, ev x r = d * ev x (primeI r) := by
  obtain ⟨d, d0, dG, _, e⟩ := prime_rel ok ne
  exact ⟨d, d0, dG, fun x => by rw [← ev_scl]; exact ev_ext x fun k => by rw [g_scl]; exact e k⟩
theorem prime_lone {r : List Int} (ok : okR r) (ne : r ≠ []) (h : Lone (g r)) (p : 0 < g r (r.length - 1)) : primeI r = r := by
  obtain ⟨d, d0, dG, _, e⟩ := prime_rel ok ne
  symm
  have pp := prime_pos ok ne
  rw [len_primeI] at pp
  exact lone_one (G_lone ok ne) h (okR_primeI ok) ok e (by rw [len_primeI]; exact pp) (by rw [len_primeI]; omega)
/-! the common row -/
structure Gc (F R G : List Int) : Prop where
  ok : okR G
  ne : G ≠ []
  lone : Lone (g G)
  pos : 0 < g G (G.length - 1)
  dF : Dv G F
  dR : Dv G R
  comb : ∃ (c : Int) (U V : List Int), c ≠ 0 ∧ ∀ x, c * ev x G = ev x U * ev x F + ev x V * ev x R
theorem Gc.least {F R G D : List Int} (h : Gc F R G) (lD : Lone (g D)) (dF : Dv D F) (dR : Dv D R) : Dv D G := by
  obtain ⟨c, U, V, c0, e⟩ := h.comb
  obtain ⟨q, hq⟩ := dF
  obtain ⟨p, hp⟩ := dR
  exact dv_gauss (q := addR (mulR U q) (mulR V p)) lD c0 fun x => by
    rw [e x, hq x, hp x, ev_add, ev_mul, ev_mul]; grind
theorem one_of_both {A B : List Int} (okA : okR A) (okB : okR B) (nA : A ≠ []) (nB : B ≠ []) (lA : Lone (g A)) (lB : Lone (g B)) (pA : 0 < g A (A.length - 1)) (pB : 0 < g B (B.length - 1)) (h : Dv A B) (l : B.length ≤ A.length) : B = A := by
  obtain ⟨q, okq, nq, len, _, e⟩ := h.fac okA nA okB nB
  have lq : q.length = 1 := by
    have : 0 < q.length := List.length_pos_iff.mpr nq
    omega
  obtain ⟨c, rfl⟩ := List.length_eq_one_iff.mp lq
  have e2 : ∀ k, g B k = c * g A k := fun k => by
    rw [e k, ← g_mul, mulR, g_add, g_scl, mulR]
    have : g [0] k = 0 := by cases k <;> rfl
    rw [this, Int.add_zero]
  have lBA : B.length = A.length := by rw [lq] at len; omega
  exact lone_one lA lB okA okB e2 pA (by rw [← lBA]; omega)
theorem Gc.one {F R G G' : List Int} (h : Gc F R G) (k : Gc F R G') : G = G' := by
  have a := h.least k.lone k.dF k.dR
  have b := k.least h.lone h.dF h.dR
  obtain ⟨q, _, nq, l, _⟩ := b.fac h.ok h.ne k.ok k.ne
  have : 0 < q.length := List.length_pos_iff.mpr nq
  exact one_of_both k.ok h.ok k.ne h.ne k.lone h.lone k.pos h.pos a (by omega)
theorem Gc.symm {F R G : List Int} (h : Gc F R G) : Gc R F G := by
  obtain ⟨c, U, V, c0, e⟩ := h.comb
  exact ⟨h.ok, h.ne, h.lone, h.pos, h.dR, h.dF, c, V, U, c0, fun x => by rw [e x]; omega⟩
theorem gc_nil {F : List Int} (ok : okR F) (ne : F ≠ []) : Gc F [] (primeI F) := by
  obtain ⟨d, d0, _, e⟩ := prime_ev ok ne
  exact ⟨okR_primeI ok, prime_ne ne, G_lone ok ne, prime_pos ok ne, ⟨[d], fun x => by rw [e x]; show _ = (d + x * 0) * _; grind⟩, Dv.nil _, d, [1], [], d0, fun x => by rw [e x]; show _ = (1 + x * 0) * _ + 0 * _; grind⟩
theorem gc_ex {F R : List Int} (okF : okR F) (okR_ : okR R) (nF : F ≠ []) : ∃ G, Gc F R G := by
  obtain ⟨D, okD, nD, ⟨U, V, eD⟩, ⟨a, p, a0, eF⟩, ⟨b, q, b0, eR⟩⟩ := least_comb okF okR_ nF
  obtain ⟨d, d0, _, e⟩ := prime_ev okD nD
  refine ⟨primeI D, okR_primeI okD, prime_ne nD, G_lone okD nD, prime_pos okD nD, ?_, ?_, d, U, V, d0, fun x => by rw [← e x]; exact eD x⟩
  · exact dv_gauss (q := sclR d p) (G_lone okD nD) a0 fun x => by rw [eF x, e x, ev_scl]; grind
  · exact dv_gauss (q := sclR d q) (G_lone okD nD) b0 fun x => by rw [eR x, e x, ev_scl]; grind
/-- the same for multiples -/
theorem dv_scl {D R : List Int} {a b : Int} {R' : List Int} (lD : Lone (g D)) (a0 : a ≠ 0) (e : ∀ x, a * ev x R = b * ev x R') (h : Dv D R') : Dv D R := by
  obtain ⟨q, hq⟩ := h
  exact dv_gauss (q := sclR b q) lD a0 fun x => by rw [e x, hq x, ev_scl]; grind
theorem Gc.scale {F R G F' R' : List Int} {a b c d : Int} (h : Gc F R G) (a0 : a ≠ 0) (b0 : b ≠ 0) (c0 : c ≠ 0) (d0 : d ≠ 0) (eF : ∀ x, a * ev x F' = b * ev x F) (eR : ∀ x, c * ev x R' = d * ev x R) : Gc F' R' G := by
  obtain ⟨t, U, V, t0, e⟩ := h.comb
  refine ⟨h.ok, h.ne, h.lone, h.pos, dv_scl h.lone a0 eF h.dF, dv_scl h.lone c0 eR h.dR, b * d * t, sclR (d * a) U, sclR (b * c) V, Int.mul_ne_zero (Int.mul_ne_zero b0 d0) t0, fun x => ?_⟩
  have e1 := eF x
  have e2 := eR x
  have e3 := e x
  rw [ev_scl, ev_scl]
  grind
end K03

set_option Elab.async false
set_option linter.all false
set_option maxRecDepth 100000
set_option maxHeartbeats 4000000
/-! what the figures of a common value tell -/
namespace K03
theorem cancel {a b D : List Int} (okD : okR D) (nD : D ≠ []) (h : ∀ x, ev x a * ev x D = ev x b * ev x D) : ∀ x, ev x a = ev x b := by
  have z : trimI (mulR (trimI (addR a (sclR (-1) b))) D) = [] := nil_of (okR_trim _) fun x => by
    rw [ev_trim, ev_mul, ev_trim, ev_add, ev_scl]
    have := h x
    grind
  have : trimI (addR a (sclR (-1) b)) = [] := Classical.byContradiction fun n => mul_ne (okR_trim _) okD n nD z
  intro x
  have e : ev x (trimI (addR a (sclR (-1) b))) = 0 := by rw [this]; rfl
  rw [ev_trim, ev_add, ev_scl] at e
  omega
theorem range_g (v : Nat → Int) (n k : Nat) : g ((List.range n).map v) k = if k < n then v k else 0 := by
  split
  next c => rw [g_some (by rw [List.length_map, List.length_range]; exact c), List.getElem_map, List.getElem_range]
  next c => exact g_none (by rw [List.length_map, List.length_range]; omega)
theorem range_cv (v : Nat → Int) (n : Nat) (F : List Int) (m : Nat) : cv (g ((List.range n).map v)) (g F) m = S n (fun i => v i * (if i ≤ m then g F (m - i) else 0)) := by
  rw [← cv_loop (n := n) (fun i hi => by rw [range_g, if_neg (by omega)]) m]
  exact S_ext n fun i hi => by
    rw [range_g, if_pos hi]
    split
    · rfl
    · rw [Int.mul_zero]
theorem nm_range (v : Nat → Int) {B : Nat} (h : ∀ i, (v i).natAbs ≤ B) : ∀ n, nm ((List.range n).map v) ≤ n * B := fun n => by
  have : ∀ l : List Nat, nm (l.map v) ≤ l.length * B := fun l => by
    induction l with
    | nil => simp [nm]
    | cons a l ih =>
      rw [List.map_cons, nm, List.length_cons, Nat.add_mul, Nat.one_mul]
      have := h a
      omega
  have := this (List.range n)
  rwa [List.length_range] at this
theorem g_le_nm (r : List Int) (k : Nat) : (g r k).natAbs ≤ nm r := by
  rcases Nat.lt_or_ge k r.length with c | c
  · exact nm_mem (g_memx c)
  · rw [g_none c]; exact Nat.zero_le _
/-- a small combination -/
theorem comb_small {F R G : List Int} (h : Gc F R G) (okF : okR F) (okR_ : okR R) (nF : F ≠ []) (nR : R ≠ []) {N : Nat} (hF : nm F ≤ N) (hR : nm R ≤ N) :
    ∃ (E U V : List Int) (c : Int), c ≠ 0 ∧ (∀ x, ev x E = ev x U * ev x F + ev x V * ev x R) ∧ (∀ k, g E k = c * g G k) ∧ nm E ≤ (2 * (F.length + R.length) * N) ^ (F.length + R.length) := by
  obtain ⟨f, okf, nf, lf, eF, gF⟩ := h.dF.fac h.ok h.ne okF nF
  obtain ⟨r, okr, nr, lr, eR, gR⟩ := h.dR.fac h.ok h.ne okR_ nR
  have N1 : 1 ≤ N := Nat.le_trans (nm_pos okF nF) hF
  have lG : 0 < G.length := List.length_pos_iff.mpr h.ne
  have lf0 : 0 < f.length := List.length_pos_iff.mpr nf
  have lr0 : 0 < r.length := List.length_pos_iff.mpr nr
  have big : ∀ n, 1 ≤ n → n ≤ F.length + R.length → (2 * n * N) ^ n ≤ (2 * (F.length + R.length) * N) ^ (F.length + R.length) := fun n n1 hn => by
    refine Nat.le_trans (Nat.pow_le_pow_left (Nat.mul_le_mul_right _ (Nat.mul_le_mul_left 2 hn)) n) (Nat.pow_le_pow_right ?_ hn)
    exact Nat.mul_pos (by omega) N1
  -- the rows' number
  generalize hp : r.length - 1 = p
  generalize hq : f.length - 1 = q
  rcases Nat.eq_zero_or_pos (p + q) with n0 | n0
  · refine ⟨F, [1], [], g f 0, ?_, fun x => by show _ = (1 + x * 0) * _ + 0 * _; grind, fun k => ?_, ?_⟩
    · have := okR_last okf nf
      rwa [hq, show q = 0 by omega] at this
    · have : f.length = 1 := by omega
      obtain ⟨a, rfl⟩ := List.length_eq_one_iff.mp this
      rw [gF k, ← g_mul, mulR, g_add, g_scl, mulR]
      have : g [0] k = 0 := by cases k <;> rfl
      rw [this, Int.add_zero]; rfl
    · refine Nat.le_trans hF (Nat.le_trans ?_ (big 1 (by omega) (by omega)))
      rw [Nat.pow_one]
      omega
  generalize hL : G.length = L at *
  -- the equations
  let M : Nat → Nat → Int := fun i j => if i < p then (if i ≤ L + j then g F (L + j - i) else 0) else (if i - p ≤ L + j then g R (L + j - (i - p)) else 0)
  have hM : ∀ i j, i < p + q → j < p + q - 1 → (M i j).natAbs ≤ N := fun i j _ _ => by
    show (if i < p then (if i ≤ L + j then g F (L + j - i) else 0) else (if i - p ≤ L + j then g R (L + j - (i - p)) else 0)).natAbs ≤ N
    split <;> split
    · exact Nat.le_trans (g_le_nm _ _) hF
    · exact Nat.zero_le _
    · exact Nat.le_trans (g_le_nm _ _) hR
    · exact Nat.zero_le _
  obtain ⟨v, ⟨i0, hi0, ni0⟩, vb, sol⟩ := siegel (n := p + q) (k := p + q - 1) (A := N) (M := M) (by omega) N1 hM
  let U := (List.range p).map v
  let V := (List.range q).map fun i => v (p + i)
  let E := trimI (addR (mulR U F) (mulR V R))
  have eE : ∀ x, ev x E = ev x U * ev x F + ev x V * ev x R := fun x => by
    show ev x (trimI _) = _
    rw [ev_trim, ev_add, ev_mul, ev_mul]
  have gE : ∀ m, g E m = cv (g U) (g F) m + cv (g V) (g R) m := fun m => by
    show g (trimI _) m = _
    rw [g_trim, g_add, g_mul, g_mul]
  have lU : U.length = p := by show ((List.range p).map v).length = p; rw [List.length_map, List.length_range]
  have lV : V.length = q := by show ((List.range q).map _).length = q; rw [List.length_map, List.length_range]
  have lE : E.length ≤ L := okR_len (okR_trim _) fun j hj => by
    show g E j = 0
    rcases Nat.lt_or_ge (j - L) (p + q - 1) with c | c
    · have s := sol (j - L) c
      rw [S_split] at s
      rw [gE, range_cv, range_cv]
      have e1 : S p (fun i => v i * M i (j - L)) = S p (fun i => v i * (if i ≤ j then g F (j - i) else 0)) := S_ext p fun i hi => by
        show v i * (if i < p then _ else _) = _
        rw [if_pos hi, show L + (j - L) = j by omega]
      have e2 : S q (fun i => v (p + i) * M (p + i) (j - L)) = S q (fun i => v (p + i) * (if i ≤ j then g R (j - i) else 0)) := S_ext q fun i hi => by
        show v (p + i) * (if p + i < p then _ else _) = _
        rw [if_neg (by omega), show L + (j - L) = j by omega, show p + i - p = i by omega]
      rw [e1, e2] at s
      exact s
    · rw [gE, ← g_mul, ← g_mul, mul_above (by omega), mul_above (by omega)]; rfl
  -- it is a multiple of the common row
  let t := addR (mulR U f) (mulR V r)
  have et : ∀ x, ev x E = ev x t * ev x G := fun x => by
    show _ = ev x (addR _ _) * _
    rw [eE x, eF x, eR x, ev_add, ev_mul, ev_mul]; grind
  have nE : E ≠ [] := fun z => by
    have t0 : ∀ x, ev x t = ev x [] := cancel h.ok h.ne fun x => by rw [← et x, z]; simp [ev]
    have uv : ∀ x, ev x U * ev x f + ev x V * ev x r = 0 := fun x => by
      have := t0 x
      rw [ev_nil] at this
      rw [← this]
      show _ = ev x (addR _ _)
      rw [ev_add, ev_mul, ev_mul]
    obtain ⟨c, A, B, c0, eC⟩ := h.comb
    have cfr : ∀ x, ev x [c] = ev x (addR (mulR A f) (mulR B r)) := cancel h.ok h.ne fun x => by
      have := eC x
      rw [eF x, eR x] at this
      rw [ev_add, ev_mul, ev_mul]
      show (c + x * 0) * _ = _
      grind
    have cfr : ∀ x, c = ev x A * ev x f + ev x B * ev x r := fun x => by
      have := cfr x
      rw [ev_add, ev_mul, ev_mul] at this
      rw [← this]; show c = c + x * 0; grind
    have z1 : trimI U = [] := Classical.byContradiction fun nU => by
      have d : Dv r (sclR c (trimI U)) := ⟨addR (mulR U B) (sclR (-1) (mulR V A)), fun x => by
        have a1 := uv x
        have a2 := cfr x
        rw [ev_scl, ev_trim, ev_add, ev_scl, ev_mul, ev_mul]
        grind⟩
      have ok1 : okR (sclR c (trimI U)) := ok_of_top (by
        rw [g_scl]
        refine Int.mul_ne_zero c0 ?_
        unfold sclR
        rw [List.length_map]
        exact okR_last (okR_trim _) nU)
      have n1 : sclR c (trimI U) ≠ [] := fun z => nU (by unfold sclR at z; simpa using z)
      obtain ⟨w, _, nw, lw, _⟩ := d.fac okr nr ok1 n1
      have : 0 < w.length := List.length_pos_iff.mpr nw
      have l1 : (sclR c (trimI U)).length ≤ p := by unfold sclR; rw [List.length_map, ← lU]; exact trimBy_len _ _
      omega
    have z2 : trimI V = [] := Classical.byContradiction fun nU => by
      have d : Dv f (sclR c (trimI V)) := ⟨addR (mulR V A) (sclR (-1) (mulR U B)), fun x => by
        have a1 := uv x
        have a2 := cfr x
        rw [ev_scl, ev_trim, ev_add, ev_scl, ev_mul, ev_mul]
        grind⟩
      have ok1 : okR (sclR c (trimI V)) := ok_of_top (by
        rw [g_scl]
        refine Int.mul_ne_zero c0 ?_
        unfold sclR
        rw [List.length_map]
        exact okR_last (okR_trim _) nU)
      have n1 : sclR c (trimI V) ≠ [] := fun z => nU (by unfold sclR at z; simpa using z)
      obtain ⟨w, _, nw, lw, _⟩ := d.fac okf nf ok1 n1
      have : 0 < w.length := List.length_pos_iff.mpr nw
      have l1 : (sclR c (trimI V)).length ≤ q := by unfold sclR; rw [List.length_map, ← lV]; exact trimBy_len _ _
      omega
    have : v i0 = 0 := by
      rcases Nat.lt_or_ge i0 p with c | c
      · have e : g U i0 = 0 := by rw [← g_trim, z1]; rfl
        rw [range_g, if_pos c] at e
        exact e
      · have e : g V (i0 - p) = 0 := by rw [← g_trim, z2]; rfl
        rw [range_g, if_pos (by omega), show p + (i0 - p) = i0 by omega] at e
        exact e
    exact ni0 this
  obtain ⟨s, oks, ns, ls, es, gs⟩ := Dv.fac ⟨t, et⟩ h.ok h.ne (okR_trim _) nE
  have ls0 : 0 < s.length := List.length_pos_iff.mpr ns
  have ls1 : s.length = 1 := by
    have : (trimI (addR (mulR U F) (mulR V R))).length ≤ L := lE
    omega
  obtain ⟨c, rfl⟩ := List.length_eq_one_iff.mp ls1
  refine ⟨E, U, V, c, ?_, eE, fun k => ?_, ?_⟩
  · have := okR_last oks ns; exact this
  · have := gs k
    rw [← g_mul, mulR, g_add, g_scl, mulR] at this
    have z : g [0] k = 0 := by cases k <;> rfl
    rw [z, Int.add_zero] at this
    exact this
  · refine Nat.le_trans ?_ (big (p + q) n0 (by omega))
    have a1 : nm E ≤ nm U * nm F + nm V * nm R := Nat.le_trans (nm_trim _) (Nat.le_trans (nm_add _ _) (Nat.add_le_add (nm_mul _ _) (nm_mul _ _)))
    generalize hB : (2 * (p + q) * N) ^ (p + q - 1) = B at vb
    have b1 := nm_range v vb p
    have b2 := nm_range (fun i => v (p + i)) (fun i => vb (p + i)) q
    have c1 : nm U * nm F ≤ p * B * N := Nat.mul_le_mul b1 hF
    have c2 : nm V * nm R ≤ q * B * N := Nat.mul_le_mul b2 hR
    have e : (2 * (p + q) * N) ^ (p + q) = B * (2 * (p + q) * N) := by rw [← hB, ← Nat.pow_succ, Nat.succ_eq_add_one, Nat.sub_add_cancel n0]
    rw [e]
    have : p * B * N + q * B * N ≤ B * (2 * (p + q) * N) := by
      have : B * (2 * (p + q) * N) = 2 * (p * B * N + q * B * N) := by grind
      omega
    omega
end K03

set_option Elab.async false
set_option linter.all false
set_option maxRecDepth 100000
set_option maxHeartbeats 4000000
/-! what the program's loop tells -/
namespace K03
def Sml (b : Nat) (F : List Int) : Prop := ∀ c ∈ F, 2 * c.natAbs + 2 < 2 ^ b
def Dig (b : Nat) (P : List Int) : Prop := okR P ∧ ∀ c ∈ P, 2 * c.natAbs ≤ 2 ^ b
abbrev XX (b : Nat) : Int := ((2 ^ b : Nat) : Int)
theorem sml_ev {b : Nat} {F : List Int} (h : Sml b F) (ok : okR F) (ne : F ≠ []) : ev (XX b) F ≠ 0 := ev_ne ok ne fun c hc => by have := h c hc; omega
theorem lone_single {a : Int} (l : Lone (g [a])) (p : 0 < a) : a = 1 := by
  rcases Nat.lt_or_ge 1 a.natAbs with c | c
  · obtain ⟨i, hi⟩ := l a.natAbs c
    exfalso
    cases i with
    | zero => exact hi (Int.natAbs_dvd.mpr (Int.dvd_refl a))
    | succ i => exact hi ⟨0, by rw [show g [a] (i + 1) = 0 from rfl]; simp⟩
  · omega
/-- the common row is a number if its value divides a small number -/
theorem no_row {F G : List Int} {b : Nat} {y : Int} (okF : okR F) (nF : F ≠ []) (sF : Sml b F) (okG : okR G) (nG : G ≠ []) (d : Dv G F) (y0 : y ≠ 0) (yb : 2 * y.natAbs ≤ 2 ^ b) (dy : ev (XX b) G ∣ y) : G.length = 1 := by
  refine Classical.byContradiction fun hc => ?_
  have l0 : 0 < G.length := List.length_pos_iff.mpr nG
  obtain ⟨K, okK, nK, lK, eK, gK⟩ := d.fac okG nG okF nF
  have K0 : 0 < K.length := List.length_pos_iff.mpr nK
  have hG0 : ev (XX b) G ≠ 0 := fun z => sml_ev sF okF nF (by rw [eK, z, Int.mul_zero])
  -- the greatest number of F
  obtain ⟨w, hw1, hw2, hw3⟩ : ∃ w : Nat, 1 ≤ w ∧ 2 * w < 2 ^ b ∧ ∀ c ∈ F, c.natAbs ≤ w - 1 := by
    have : ∀ l : List Int, Sml b l → l ≠ [] → ∃ w : Nat, 1 ≤ w ∧ 2 * w < 2 ^ b ∧ ∀ c ∈ l, c.natAbs ≤ w - 1 := fun l => by
      induction l with
      | nil => intro _ z; exact absurd rfl z
      | cons a l ih =>
        intro h _
        have ha := h a (by simp)
        by_cases e : l = []
        · subst e
          exact ⟨a.natAbs + 1, by omega, by omega, fun c hc => by simp at hc; subst hc; omega⟩
        · obtain ⟨w, x1, x2, x3⟩ := ih (fun c hc => h c (by simp [hc])) e
          refine ⟨max w (a.natAbs + 1), by omega, by omega, fun c hc => ?_⟩
          rcases List.mem_cons.mp hc with z | z
          · subst z; omega
          · have := x3 c z; omega
    exact this F sF nF
  have fv := factor_val (X := XX b) (w := w) (H := G) (K := K) (n := F.length - 2) hw1 (by omega) (by omega) (by omega) (okR_last okG nG) (okR_last okK nK) (fun i _ => by
    rw [g_mul, ← gK]
    rcases Nat.lt_or_ge i F.length with c | c
    · exact hw3 _ (g_memx c)
    · rw [g_none c]; exact Nat.zero_le _) (Int.natCast_nonneg _) hG0
  have := Nat.le_of_dvd (by omega) (Int.natAbs_dvd_natAbs.mpr dy)
  rw [Int.natAbs_natCast] at fv
  omega
/-- the row that figures tell -/
theorem told {F R G P : List Int} {b : Nat} {gm : Nat} (h : Gc F R G) (okF : okR F) (okR_ : okR R) (nF : F ≠ []) (nR : R ≠ []) (sm : Sml b F ∨ Sml b R) (hg : gm = Nat.gcd (ev (XX b) F).natAbs (ev (XX b) R).natAbs)
    (dP : Dig b P) (eP : ev (XX b) P = (gm : Int)) : gm ≠ 0 ∧ P ≠ [] ∧ ((primeI P).length = 1 → G = [1]) ∧ (Dv (primeI P) F → Dv (primeI P) R → G = primeI P) := by
  have g0 : gm ≠ 0 := fun z => by
    have := Nat.gcd_eq_zero_iff.mp (hg.symm.trans z)
    rcases sm with s | s
    · exact sml_ev s okF nF (by omega)
    · exact sml_ev s okR_ nR (by omega)
  have nP : P ≠ [] := fun z => by rw [z, ev_nil] at eP; omega
  obtain ⟨e, e0, eG, ep⟩ := prime_ev dP.1 nP
  have dG : ev (XX b) G ∣ (gm : Int) := by
    refine Int.natAbs_dvd_natAbs.mp ?_
    rw [Int.natAbs_natCast, hg]
    exact Nat.dvd_gcd (Int.natAbs_dvd_natAbs.mpr (h.dF.at _)) (Int.natAbs_dvd_natAbs.mpr (h.dR.at _))
  have eb : 2 * e.natAbs ≤ 2 ^ b := by
    obtain ⟨c, hc⟩ := List.exists_mem_of_ne_nil P nP
    have l1 := G_le dP.1 nP (b := 2 ^ b / 2) fun c hc => by have := dP.2 c hc; omega
    rw [eG]; omega
  have small : ∀ {y : Int} {D : List Int}, okR D → D ≠ [] → Dv D F → Dv D R → y ≠ 0 → 2 * y.natAbs ≤ 2 ^ b → ev (XX b) D ∣ y → D.length = 1 := fun okD nD dF dR y0 yb dy => by
    rcases sm with s | s
    · exact no_row okF nF s okD nD dF y0 yb dy
    · exact no_row okR_ nR s okD nD dR y0 yb dy
  refine ⟨g0, nP, fun l1 => ?_, fun dF dR => ?_⟩
  · have l1 : P.length = 1 := by rw [← len_primeI P]; exact l1
    obtain ⟨a, ha⟩ := List.length_eq_one_iff.mp l1
    have ea : a = gm := by rw [← eP, ha]; show a = a + XX b * 0; grind
    have := dP.2 a (by rw [ha]; simp)
    have lG := small h.ok h.ne h.dF h.dR (y := (gm : Int)) (by omega) (by rw [← ea]; exact this) dG
    obtain ⟨u, hu⟩ := List.length_eq_one_iff.mp lG
    have p := h.pos
    have l := h.lone
    rw [hu] at p l
    rw [hu, lone_single l p]
  · have d := h.least (G_lone dP.1 nP) dF dR
    have okf := okR_primeI dP.1
    have nf := prime_ne nP
    obtain ⟨H, okH, nH, lH, eH, gH⟩ := d.fac okf nf h.ok h.ne
    have f0 : ev (XX b) (primeI P) ≠ 0 := fun z => by rw [ep, z, Int.mul_zero] at eP; omega
    have dH : ev (XX b) H ∣ e := by
      rw [eH, ← eP, ep] at dG
      exact Int.dvd_of_mul_dvd_mul_right f0 dG
    have HF : Dv H F := by obtain ⟨q, hq⟩ := h.dF; exact ⟨mulR q (primeI P), fun x => by rw [hq, eH, ev_mul]; grind⟩
    have HR : Dv H R := by obtain ⟨q, hq⟩ := h.dR; exact ⟨mulR q (primeI P), fun x => by rw [hq, eH, ev_mul]; grind⟩
    have l1 := small okH nH HF HR e0 eb dH
    exact one_of_both okf h.ok nf h.ne (G_lone dP.1 nP) h.lone (prime_pos dP.1 nP) h.pos d (by omega)
/-- in the end it is the common row -/
theorem ends {F R G P E U V : List Int} {b : Nat} {gm : Nat} {c : Int} (h : Gc F R G) (okF : okR F) (okR_ : okR R) (nF : F ≠ []) (nR : R ≠ []) (sm : Sml b F ∨ Sml b R) (hg : gm = Nat.gcd (ev (XX b) F).natAbs (ev (XX b) R).natAbs)
    (dP : Dig b P) (eP : ev (XX b) P = (gm : Int)) (c0 : c ≠ 0) (eE : ∀ x, ev x E = ev x U * ev x F + ev x V * ev x R) (cE : ∀ k, g E k = c * g G k) (big : 2 * nm E < 2 ^ b) : primeI P = G := by
  obtain ⟨g0, nP, _, _⟩ := told h okF okR_ nF nR sm hg dP eP
  have dG : ev (XX b) G ∣ (gm : Int) := by
    refine Int.natAbs_dvd_natAbs.mp ?_
    rw [Int.natAbs_natCast, hg]
    exact Nat.dvd_gcd (Int.natAbs_dvd_natAbs.mpr (h.dF.at _)) (Int.natAbs_dvd_natAbs.mpr (h.dR.at _))
  obtain ⟨e, he⟩ := dG
  have G0 : ev (XX b) G ≠ 0 := fun z => by rw [z, Int.zero_mul] at he; omega
  have evE : ev (XX b) E = c * ev (XX b) G := by rw [← ev_scl]; exact ev_ext _ fun k => by rw [g_scl]; exact cE k
  have d : (gm : Int) ∣ ev (XX b) E := by
    have d1 : (gm : Int) ∣ ev (XX b) F := nd.mpr (by rw [hg]; exact Nat.gcd_dvd_left ..)
    have d2 : (gm : Int) ∣ ev (XX b) R := nd.mpr (by rw [hg]; exact Nat.gcd_dvd_right ..)
    rw [eE]
    exact Int.dvd_add (Int.dvd_trans d1 ⟨_, Int.mul_comm _ _⟩) (Int.dvd_trans d2 ⟨_, Int.mul_comm _ _⟩)
  have ec : e ∣ c := by
    rw [he, evE, Int.mul_comm] at d
    exact Int.dvd_of_mul_dvd_mul_right G0 d
  have le : e.natAbs ≤ c.natAbs := Nat.le_of_dvd (by omega) (Int.natAbs_dvd_natAbs.mpr ec)
  have e0 : e ≠ 0 := fun z => by rw [z, Int.mul_zero] at he; omega
  have bd : ∀ k, 2 * (e * g G k).natAbs < 2 ^ b := fun k => by
    have h1 : (e * g G k).natAbs ≤ (c * g G k).natAbs := by rw [Int.natAbs_mul, Int.natAbs_mul]; exact Nat.mul_le_mul_right _ le
    rw [← cE] at h1
    have := g_le_nm E k
    omega
  -- the figures are those
  have eq : ∀ k, g P k = e * g G k := by
    have z := ev_zero (X := 2 ^ b) (r := addR P (sclR (-e) G)) (fun y hy => by
      obtain ⟨k, hk, hy⟩ := List.getElem_of_mem hy
      rw [← hy, ← g_some hk, g_add, g_scl]
      have b1 := bd k
      have b2 : 2 * (g P k).natAbs ≤ 2 ^ b := by
        rcases Nat.lt_or_ge k P.length with q | q
        · exact dP.2 _ (g_memx q)
        · rw [g_none q]; exact Nat.zero_le _
      have : -e * g G k = -(e * g G k) := by grind
      rw [this]
      omega) (by
      have e1 : ev (XX b) (addR P (sclR (-e) G)) = 0 := by rw [ev_add, ev_scl, eP, he]; grind
      exact e1)
    intro k
    have : g (addR P (sclR (-e) G)) k = 0 := by
      rcases Nat.lt_or_ge k (addR P (sclR (-e) G)).length with q | q
      · exact z _ (g_memx q)
      · exact g_none q
    rw [g_add, g_scl] at this
    grind
  obtain ⟨d', d0, _, ep⟩ := prime_ev dP.1 nP
  have epG : ∀ x, ev x P = e * ev x G := fun x => by rw [← ev_scl]; exact ev_ext x fun k => by rw [g_scl]; exact eq k
  have dv : Dv G (primeI P) := dv_gauss (q := [e]) h.lone d0 fun x => by rw [← ep, epG]; show _ = (e + x * 0) * _; grind
  have len : P.length ≤ G.length := okR_len dP.1 fun j hj => by rw [eq j, g_none hj, Int.mul_zero]
  exact one_of_both h.ok (okR_primeI dP.1) h.ne (prime_ne nP) h.lone (G_lone dP.1 nP) h.pos (prime_pos dP.1 nP) dv (by rw [len_primeI]; exact len)
end K03

set_option Elab.async false
set_option linter.all false
set_option maxRecDepth 100000
set_option maxHeartbeats 4000000
/-! how great a factor's numbers are -/
namespace K03
theorem syn (a : Int) : ∀ H : List Int, ∃ Q : List Int, Q.length ≤ H.length - 1 ∧ ∀ x, ev x H = ev a H + (x - a) * ev x Q
  | [] => ⟨[], Nat.le_refl _, fun x => by simp [ev]⟩
  | [c] => ⟨[], Nat.le_refl _, fun x => by show c + x * 0 = c + a * 0 + (x - a) * 0; grind⟩
  | c :: d :: H => by
    obtain ⟨Q, lQ, e⟩ := syn a (d :: H)
    refine ⟨ev a (d :: H) :: Q, by simp at lQ ⊢; omega, fun x => ?_⟩
    have e := e x
    show c + x * ev x (d :: H) = c + a * ev a (d :: H) + (x - a) * (ev a (d :: H) + x * ev x Q)
    rw [e]; grind
theorem nm_of_vals : ∀ (d : Nat) (H : List Int) (a M : Nat), okR H → H.length ≤ d + 1 → (∀ i : Nat, i ≤ d → (ev ((a + i : Nat) : Int) H).natAbs ≤ M) → nm H ≤ (2 * (a + d + 2)) ^ d * M
  | 0, H, a, M, ok, l, h => by
    rw [Nat.pow_zero, Nat.one_mul]
    match H, l with
    | [], _ => exact Nat.zero_le _
    | [c], _ =>
      have := h 0 (Nat.le_refl _)
      have e : ev ((a + 0 : Nat) : Int) [c] = c := by show c + _ * 0 = c; grind
      rw [e] at this
      show c.natAbs + 0 ≤ M
      omega
  | d + 1, H, a, M, ok, l, h => by
    obtain ⟨Q, lQ, e⟩ := syn (a : Int) H
    have ih := nm_of_vals d (trimI Q) (a + 1) (2 * M) (okR_trim _) (Nat.le_trans (trimBy_len _ _) (by omega)) fun i hi => by
      rw [ev_trim]
      have h0 := h 0 (by omega)
      have h1 := h (i + 1) (by omega)
      have e1 := e ((a + 1 + i : Nat) : Int)
      rw [show a + (i + 1) = a + 1 + i by omega] at h1
      rw [Nat.add_zero] at h0
      have e2 : ((a + 1 + i : Nat) : Int) - (a : Int) = ((i + 1 : Nat) : Int) := by omega
      rw [e2] at e1
      have e3 : ((i + 1 : Nat) : Int) * ev ((a + 1 + i : Nat) : Int) Q = ev ((a + 1 + i : Nat) : Int) H - ev (a : Int) H := by omega
      have e4 := congrArg Int.natAbs e3
      rw [Int.natAbs_mul, Int.natAbs_natCast] at e4
      have e5 := Int.natAbs_sub_le (ev ((a + 1 + i : Nat) : Int) H) (ev (a : Int) H)
      have e6 : 1 * (ev ((a + 1 + i : Nat) : Int) Q).natAbs ≤ (i + 1) * (ev ((a + 1 + i : Nat) : Int) Q).natAbs := Nat.mul_le_mul_right _ (by omega)
      omega
    have eH : H = trimI (addR [ev (a : Int) H] (mulR [-(a : Int), 1] (trimI Q))) := ev_inj ok (okR_trim _) fun x => by
      rw [ev_trim, ev_add, ev_mul, ev_trim, e x]
      show ev (a : Int) H + (x - a) * ev x Q = (ev (a : Int) H + x * 0) + (-(a : Int) + x * (1 + x * 0)) * ev x Q
      grind
    have b1 : nm H ≤ M + (a + 1) * nm (trimI Q) := by
      have n1 : nm H ≤ nm [ev (a : Int) H] + nm [-(a : Int), 1] * nm (trimI Q) := by
        conv => lhs; rw [eH]
        exact Nat.le_trans (nm_trim _) (Nat.le_trans (nm_add _ _) (Nat.add_le_add_left (nm_mul _ _) _))
      have n2 : nm [ev (a : Int) H] ≤ M := by
        have := h 0 (by omega)
        rw [Nat.add_zero] at this
        show (ev (a : Int) H).natAbs + 0 ≤ M
        omega
      have n3 : nm [-(a : Int), 1] = a + 1 := by show (-(a : Int)).natAbs + ((1 : Int).natAbs + 0) = a + 1; omega
      rw [n3] at n1
      omega
    rw [show a + 1 + d + 2 = a + (d + 1) + 2 by omega] at ih
    generalize hC : 2 * (a + (d + 1) + 2) = C at ih ⊢
    have c1 : 2 * (a + 1) + 1 ≤ C := by omega
    have p : 1 ≤ C ^ d := Nat.pow_pos (by omega)
    have m2 : (a + 1) * nm (trimI Q) ≤ (a + 1) * (C ^ d * (2 * M)) := Nat.mul_le_mul_left _ ih
    have m3 : M ≤ C ^ d * M := Nat.le_mul_of_pos_left _ p
    have m4 : (2 * (a + 1) + 1) * (C ^ d * M) ≤ C * (C ^ d * M) := Nat.mul_le_mul_right _ c1
    have m5 : C * (C ^ d * M) = C ^ (d + 1) * M := by rw [Nat.pow_succ]; grind
    have m6 : (2 * (a + 1) + 1) * (C ^ d * M) = (a + 1) * (C ^ d * (2 * M)) + C ^ d * M := by grind
    omega
theorem nm_fac {D R : List Int} {n s : Nat} (h : Dv D R) (okD : okR D) (nD : D ≠ []) (okR_ : okR R) (nR : R ≠ []) (l : R.length ≤ n + 1) (hN : nm R + n + 3 ≤ 2 ^ s) : nm D < 2 ^ ((2 * n + 1) * s + n) := by
  obtain ⟨q, okq, nq, lq, e, _⟩ := h.fac okD nD okR_ nR
  have q0 : 0 < q.length := List.length_pos_iff.mpr nq
  generalize hN' : nm R = N at hN
  have vb : ∀ i, i ≤ n → (ev ((N + 1 + i : Nat) : Int) D).natAbs ≤ N * (2 ^ s) ^ n := fun i hi => by
    have z : ev ((N + 1 + i : Nat) : Int) R ≠ 0 := ev_ne okR_ nR fun c hc => by have := nm_mem hc; omega
    have d1 : (ev ((N + 1 + i : Nat) : Int) D).natAbs ≤ (ev ((N + 1 + i : Nat) : Int) R).natAbs := Nat.le_of_dvd (by omega) (Int.natAbs_dvd_natAbs.mpr (h.at _))
    have d2 := ev_le (N + 1 + i) (by omega) (n := n) l
    rw [hN'] at d2
    refine Nat.le_trans d1 (Nat.le_trans d2 (Nat.mul_le_mul_left _ (Nat.pow_le_pow_left (by omega) n)))
  have b := nm_of_vals n D (N + 1) _ okD (by omega) vb
  have p1 : 2 * (N + 1 + n + 2) ≤ 2 ^ (s + 1) := by rw [Nat.pow_succ]; omega
  have p2 : (2 * (N + 1 + n + 2)) ^ n ≤ (2 ^ (s + 1)) ^ n := Nat.pow_le_pow_left p1 n
  refine Nat.lt_of_le_of_lt (Nat.le_trans b (Nat.mul_le_mul_right _ p2)) ?_
  have p3 : N < 2 ^ s := by omega
  have e1 : 2 ^ ((2 * n + 1) * s + n) = (2 ^ (s + 1)) ^ n * (2 ^ s * (2 ^ s) ^ n) := by
    rw [← Nat.pow_mul, ← Nat.pow_mul, ← Nat.pow_add, ← Nat.pow_add]
    congr 1
    grind
  rw [e1]
  refine Nat.mul_lt_mul_of_pos_left ?_ (Nat.pow_pos (Nat.pow_pos (by decide)))
  exact Nat.mul_lt_mul_of_pos_right p3 (Nat.pow_pos (Nat.pow_pos (by decide)))
/-! the same, sharper: at points that are no roots -/
theorem nm_of_pts {C : Nat} : ∀ (pts : List Nat) (H : List Int) (M : Nat), pts.Nodup → okR H → H.length ≤ pts.length → (∀ p ∈ pts, p ≤ C ∧ (ev ((p : Nat) : Int) H).natAbs ≤ M) → nm H ≤ (2 * C + 3) ^ pts.length * M
  | [], H, M, _, ok, l, _ => by
    have : H = [] := List.length_eq_zero_iff.mp (by simpa using l)
    rw [this]; exact Nat.zero_le _
  | p :: pts, H, M, nd, ok, l, h => by
    obtain ⟨Q, lQ, e⟩ := syn (p : Int) H
    obtain ⟨np, nd⟩ := List.nodup_cons.mp nd
    have hp := h p (by simp)
    have ih := nm_of_pts pts (trimI Q) (2 * M) nd (okR_trim _) (Nat.le_trans (trimBy_len _ _) (by simp at l; omega)) fun q hq => by
      have h1 := h q (by simp [hq])
      refine ⟨h1.1, ?_⟩
      rw [ev_trim]
      have e1 := e ((q : Nat) : Int)
      have ne : q ≠ p := fun z => np (z ▸ hq)
      have e3 : ((q : Int) - (p : Int)) * ev ((q : Nat) : Int) Q = ev ((q : Nat) : Int) H - ev (p : Int) H := by omega
      have e4 := congrArg Int.natAbs e3
      rw [Int.natAbs_mul] at e4
      have e5 := Int.natAbs_sub_le (ev ((q : Nat) : Int) H) (ev (p : Int) H)
      have e6 : 1 * (ev ((q : Nat) : Int) Q).natAbs ≤ ((q : Int) - (p : Int)).natAbs * (ev ((q : Nat) : Int) Q).natAbs := Nat.mul_le_mul_right _ (by omega)
      omega
    have eH : H = trimI (addR [ev (p : Int) H] (mulR [-(p : Int), 1] (trimI Q))) := ev_inj ok (okR_trim _) fun x => by
      rw [ev_trim, ev_add, ev_mul, ev_trim, e x]
      show ev (p : Int) H + (x - p) * ev x Q = (ev (p : Int) H + x * 0) + (-(p : Int) + x * (1 + x * 0)) * ev x Q
      grind
    have b1 : nm H ≤ M + (C + 1) * nm (trimI Q) := by
      have n1 : nm H ≤ nm [ev (p : Int) H] + nm [-(p : Int), 1] * nm (trimI Q) := by
        conv => lhs; rw [eH]
        exact Nat.le_trans (nm_trim _) (Nat.le_trans (nm_add _ _) (Nat.add_le_add_left (nm_mul _ _) _))
      have n2 : nm [ev (p : Int) H] ≤ M := by
        show (ev (p : Int) H).natAbs + 0 ≤ M
        omega
      have n3 : nm [-(p : Int), 1] ≤ C + 1 := by show (-(p : Int)).natAbs + ((1 : Int).natAbs + 0) ≤ C + 1; omega
      have n4 : nm [-(p : Int), 1] * nm (trimI Q) ≤ (C + 1) * nm (trimI Q) := Nat.mul_le_mul_right _ n3
      omega
    rw [List.length_cons]
    generalize pts.length = k at ih ⊢
    have p1 : 1 ≤ (2 * C + 3) ^ k := Nat.pow_pos (by omega)
    have m2 : (C + 1) * nm (trimI Q) ≤ (C + 1) * ((2 * C + 3) ^ k * (2 * M)) := Nat.mul_le_mul_left _ ih
    have m3 : M ≤ (2 * C + 3) ^ k * M := Nat.le_mul_of_pos_left _ p1
    have m5 : (2 * C + 3) ^ (k + 1) * M = (C + 1) * ((2 * C + 3) ^ k * (2 * M)) + (2 * C + 3) ^ k * M := by rw [Nat.pow_succ]; grind
    omega
theorem roots_lt : ∀ (pts : List Nat) (F : List Int), pts.Nodup → okR F → F ≠ [] → (∀ p ∈ pts, ev ((p : Nat) : Int) F = 0) → pts.length < F.length
  | [], F, _, _, ne, _ => List.length_pos_iff.mpr ne
  | p :: pts, F, nd, ok, ne, h => by
    obtain ⟨Q, lQ, e⟩ := syn (p : Int) F
    obtain ⟨np, nd⟩ := List.nodup_cons.mp nd
    have h0 := h p (by simp)
    have e : ∀ x, ev x F = (x - p) * ev x (trimI Q) := fun x => by rw [ev_trim, e x, h0]; omega
    have nQ : trimI Q ≠ [] := fun z => ne (nil_of' ok fun x => by rw [e x, z]; show _ * 0 = 0; omega)
    have := roots_lt pts (trimI Q) nd (okR_trim _) nQ fun q hq => by
      have h1 := h q (by simp [hq])
      rw [e] at h1
      rcases Int.mul_eq_zero.mp h1 with z | z
      · exfalso
        have : q = p := by omega
        exact np (this ▸ hq)
      · exact z
    have := trimBy_len (fun c => c == 0) Q
    rw [List.length_cons]
    have l0 : 0 < F.length := List.length_pos_iff.mpr ne
    have : (trimI Q).length ≤ Q.length := this
    omega
where nil_of' {R : List Int} (h : okR R) (z : ∀ x, ev x R = 0) : R = [] := ev_inj h okR_nil fun x => by rw [z x]; rfl
theorem nm_fac2 {D R : List Int} {n : Nat} (h : Dv D R) (okD : okR D) (nD : D ≠ []) (okR_ : okR R) (nR : R ≠ []) (l : R.length ≤ n + 1) (n1 : 1 ≤ n) : nm D ≤ (4 * n + 3) ^ (2 * n + 1) * (nm R * (2 * n) ^ n) := by
  obtain ⟨q, okq, nq, lq, e, _⟩ := h.fac okD nD okR_ nR
  have q0 : 0 < q.length := List.length_pos_iff.mpr nq
  generalize hp : (List.range (2 * n + 1)).filter (fun p => decide (ev ((p : Nat) : Int) R ≠ 0)) = pts
  have nd : pts.Nodup := by rw [← hp]; exact List.Pairwise.filter _ List.nodup_range
  have nr : ((List.range (2 * n + 1)).filter (fun p => !decide (ev ((p : Nat) : Int) R ≠ 0))).length < R.length := roots_lt _ R (List.Pairwise.filter _ List.nodup_range) okR_ nR fun p hp => by
    have := (List.mem_filter.mp hp).2
    simpa using this
  have tot : ((List.range (2 * n + 1)).filter (fun p => decide (ev ((p : Nat) : Int) R ≠ 0))).length + ((List.range (2 * n + 1)).filter (fun p => !decide (ev ((p : Nat) : Int) R ≠ 0))).length = 2 * n + 1 := by
    have : ∀ (f : Nat → Bool) (l : List Nat), (l.filter f).length + (l.filter fun p => !f p).length = l.length := fun f l => by
      induction l with
      | nil => rfl
      | cons a l ih =>
        cases hf : f a <;> simp [hf] <;> omega
    rw [this, List.length_range]
  rw [hp] at tot
  have lp : n + 1 ≤ pts.length := by omega
  have lp2 : pts.length ≤ 2 * n + 1 := by omega
  have b := nm_of_pts (C := 2 * n) pts D (nm R * (2 * n) ^ n) nd okD (by omega) fun p hpp => by
    rw [← hp] at hpp
    obtain ⟨r1, r2⟩ := List.mem_filter.mp hpp
    have r1 := List.mem_range.mp r1
    have z : ev ((p : Nat) : Int) R ≠ 0 := by simpa using r2
    refine ⟨by omega, ?_⟩
    have d1 : (ev ((p : Nat) : Int) D).natAbs ≤ (ev ((p : Nat) : Int) R).natAbs := Nat.le_of_dvd (by omega) (Int.natAbs_dvd_natAbs.mpr (h.at _))
    refine Nat.le_trans d1 ?_
    rcases Nat.eq_zero_or_pos p with c | c
    · subst c
      have : ev ((0 : Nat) : Int) R = g R 0 := by
        cases R with
        | nil => rfl
        | cons a R => show a + ((0 : Nat) : Int) * _ = a; simp
      rw [this]
      have g1 : (g R 0).natAbs ≤ nm R := by
        cases R with
        | nil => exact Nat.zero_le _
        | cons a R => exact nm_mem (by simp)
      exact Nat.le_trans g1 (Nat.le_mul_of_pos_right _ (Nat.pow_pos (by omega)))
    · exact Nat.le_trans (ev_le p c (n := n) l) (Nat.mul_le_mul_left _ (Nat.pow_le_pow_left (by omega) n))
  refine Nat.le_trans b (Nat.mul_le_mul_right _ ?_)
  rw [show 2 * (2 * n) + 3 = 4 * n + 3 by omega]
  exact Nat.pow_le_pow_right (by omega) lp2
end K03

set_option Elab.async false
set_option linter.all false
set_option maxRecDepth 100000
set_option maxHeartbeats 4000000
/-! one row over another, and plain rows -/
namespace K03
/-- t is the prime part of A over B -/
def Ov (A B t : List Int) : Prop := okR t ∧ (A = [] → t = []) ∧ (A ≠ [] → t ≠ [] ∧ Lone (g t) ∧ 0 < g t (t.length - 1) ∧ ∃ c d : Int, c ≠ 0 ∧ d ≠ 0 ∧ ∀ x, c * ev x A = d * (ev x t * ev x B))
theorem Ov.one {A B t t' : List Int} (okB : okR B) (nB : B ≠ []) (h : Ov A B t) (k : Ov A B t') : t = t' := by
  by_cases nA : A = []
  · rw [h.2.1 nA, k.2.1 nA]
  obtain ⟨n1, l1, p1, c, d, c0, d0, e⟩ := h.2.2 nA
  obtain ⟨n2, l2, p2, c', d', c0', d0', e'⟩ := k.2.2 nA
  have eq : ∀ x, ev x (sclR (c' * d) t) = ev x (sclR (c * d') t') := cancel okB nB fun x => by
    have a := e x
    have b := e' x
    rw [ev_scl, ev_scl]
    grind
  have eq : ∀ x, c' * d * ev x t = c * d' * ev x t' := fun x => by have := eq x; rwa [ev_scl, ev_scl] at this
  have m0 : c' * d ≠ 0 := Int.mul_ne_zero c0' d0
  have m1 : c * d' ≠ 0 := Int.mul_ne_zero c0 d0'
  have dv1 : Dv t' t := dv_gauss (q := [c * d']) l2 m0 fun x => by rw [eq]; show _ = (c * d' + x * 0) * _; grind
  have dv2 : Dv t t' := dv_gauss (q := [c' * d]) l1 m1 fun x => by rw [← eq]; show _ = (c' * d + x * 0) * _; grind
  obtain ⟨q, _, nq, lq, _⟩ := dv2.fac h.1 n1 k.1 n2
  have : 0 < q.length := List.length_pos_iff.mpr nq
  exact one_of_both k.1 h.1 n2 n1 l2 l1 p2 p1 dv1 (by omega)
/-- what is told of a division -/
def OvO (A B : List Int) : Option (List Int) → Prop
  | some t => Ov A B t
  | none => ¬ ∃ t, Ov A B t
theorem OvO.one {A B : List Int} {o o' : Option (List Int)} (okB : okR B) (nB : B ≠ []) (h : OvO A B o) (k : OvO A B o') : o = o' := by
  cases o with
  | none =>
    cases o' with
    | none => rfl
    | some t => exact absurd ⟨t, k⟩ h
  | some t =>
    cases o' with
    | none => exact absurd ⟨t, h⟩ k
    | some t' => rw [Ov.one okB nB h k]
theorem lone_of_mul {a b : Nat → Int} (h : Lone (cv a b)) : Lone a := fun p p1 => by
  refine Classical.byContradiction fun no => ?_
  have all : ∀ k, (p : Int) ∣ a k := fun k => Classical.byContradiction fun z => no ⟨k, z⟩
  obtain ⟨i, hi⟩ := h p p1
  exact hi (S_dvd _ fun j _ => Int.dvd_trans (all j) ⟨_, rfl⟩)
theorem pos_of_mul {a b : Int} (h : 0 < a * b) (hb : 0 < b) : 0 < a := by
  rcases Int.lt_trichotomy a 0 with c | c | c
  · have := Int.mul_neg_of_neg_of_pos c hb; omega
  · rw [c, Int.zero_mul] at h; omega
  · exact c
/-- the whole quotient of the prime parts -/
theorem ov_of_quot {A B q : List Int} (okA : okR A) (okB : okR B) (nA : A ≠ []) (nB : B ≠ []) (okq : okR q) (h : ∀ x, ev x (primeI A) = ev x q * ev x (primeI B)) : Ov A B q := by
  obtain ⟨a, a0, _, ea⟩ := prime_ev okA nA
  obtain ⟨b, b0, _, eb⟩ := prime_ev okB nB
  have nq : q ≠ [] := fun z => prime_ne nA (nil_of (okR_primeI okA) fun x => by rw [h x, z, ev_nil, Int.zero_mul])
  have eP : primeI A = trimI (mulR q (primeI B)) := ev_inj (okR_primeI okA) (okR_trim _) fun x => by rw [ev_trim, ev_mul]; exact h x
  have gP : ∀ k, g (primeI A) k = cv (g q) (g (primeI B)) k := fun k => by rw [← g_mul, ← g_trim (mulR _ _), ← eP]
  refine ⟨okq, fun z => absurd z nA, fun _ => ⟨nq, ?_, ?_, b, a, b0, a0, fun x => ?_⟩⟩
  · have := G_lone okA nA
    rw [show g (primeI A) = cv (g q) (g (primeI B)) from funext gP] at this
    exact lone_of_mul this
  · have pA := prime_pos okA nA
    have pB := prime_pos okB nB
    have l := len_mul okq (okR_primeI okB) nq (prime_ne nB)
    rw [← eP] at l
    have l1 : 0 < q.length := List.length_pos_iff.mpr nq
    have l2 : 0 < (primeI B).length := List.length_pos_iff.mpr (prime_ne nB)
    rw [gP, show (primeI A).length - 1 = q.length - 1 + ((primeI B).length - 1) by omega, ← g_mul, top_mul okq (okR_primeI okB) nq (prime_ne nB)] at pA
    exact pos_of_mul pA pB
  · rw [ea x, eb x, h x]; grind
theorem quot_of_ov {A B t : List Int} (okA : okR A) (okB : okR B) (nA : A ≠ []) (nB : B ≠ []) (h : Ov A B t) : ∀ x, ev x (primeI A) = ev x t * ev x (primeI B) := by
  obtain ⟨nt, lt, pt, c, d, c0, d0, e⟩ := h.2.2 nA
  obtain ⟨a, a0, _, ea⟩ := prime_ev okA nA
  obtain ⟨b, b0, _, eb⟩ := prime_ev okB nB
  have okM := okR_trim (mulR t (primeI B))
  have nM := mul_ne h.1 (okR_primeI okB) nt (prime_ne nB)
  have lM : Lone (g (trimI (mulR t (primeI B)))) := by
    rw [show g (trimI (mulR t (primeI B))) = cv (g t) (g (primeI B)) from funext fun k => by rw [g_trim, g_mul]]
    exact lone_mul lt (G_lone okB nB)
  have l := len_mul h.1 (okR_primeI okB) nt (prime_ne nB)
  have l1 : 0 < t.length := List.length_pos_iff.mpr nt
  have l2 : 0 < (primeI B).length := List.length_pos_iff.mpr (prime_ne nB)
  have pM : 0 < g (trimI (mulR t (primeI B))) ((trimI (mulR t (primeI B))).length - 1) := by
    rw [show (trimI (mulR t (primeI B))).length - 1 = t.length - 1 + ((primeI B).length - 1) by omega, g_trim, top_mul h.1 (okR_primeI okB) nt (prime_ne nB)]
    exact Int.mul_pos pt (prime_pos okB nB)
  have rel : ∀ x, c * a * ev x (primeI A) = d * b * ev x (trimI (mulR t (primeI B))) := fun x => by
    have := e x
    rw [ea x, eb x] at this
    rw [ev_trim, ev_mul]
    grind
  have m0 := Int.mul_ne_zero c0 a0
  have m1 := Int.mul_ne_zero d0 b0
  have dv1 : Dv (trimI (mulR t (primeI B))) (primeI A) := dv_gauss (q := [d * b]) lM m0 fun x => by rw [rel]; show _ = (d * b + x * 0) * _; grind
  have dv2 : Dv (primeI A) (trimI (mulR t (primeI B))) := dv_gauss (q := [c * a]) (G_lone okA nA) m1 fun x => by rw [← rel]; show _ = (c * a + x * 0) * _; grind
  obtain ⟨q, _, nq, lq, _⟩ := dv2.fac (okR_primeI okA) (prime_ne nA) okM nM
  have : 0 < q.length := List.length_pos_iff.mpr nq
  have eq := one_of_both okM (okR_primeI okA) nM (prime_ne nA) lM (G_lone okA nA) pM (prime_pos okA nA) dv1 (by omega)
  intro x
  rw [eq, ev_trim, ev_mul]
/-- a product over one factor -/
theorem ov_mul {A B P : List Int} (okA : okR A) (okB : okR B) (nB : B ≠ []) (eP : ∀ x, ev x P = ev x A * ev x B) (okP : okR P) : Ov P B (primeI A) := by
  by_cases nA : A = []
  · have : P = [] := nil_of okP fun x => by rw [eP x, nA, ev_nil, Int.zero_mul]
    subst nA
    exact ⟨okR_primeI okA, fun _ => rfl, fun z => absurd this z⟩
  · obtain ⟨a, a0, _, ea⟩ := prime_ev okA nA
    refine ⟨okR_primeI okA, fun z => ?_, fun _ => ⟨prime_ne nA, G_lone okA nA, prime_pos okA nA, 1, a, by decide, a0, fun x => by rw [eP x, ea x]; grind⟩⟩
    exact absurd (show trimI (mulR A B) = [] from nil_of (okR_trim _) fun x => by rw [ev_trim, ev_mul, ← eP x, z]; rfl) (mul_ne okA okB nA nB)
/-- with a rest there is no quotient -/
theorem ov_none {A B f r : List Int} {c : Int} (okB : okR B) (nB : B ≠ []) (c0 : c ≠ 0) (okr : okR r) (nr : r ≠ []) (lr : r.length < B.length) (e : ∀ x, c * ev x A = ev x f * ev x B + ev x r) : ¬ ∃ t, Ov A B t := by
  rintro ⟨t, h⟩
  have rest : ∀ (d : Int) (q : List Int), d ≠ 0 → (∀ x, d * ev x r = ev x q * ev x B) → False := fun d q d0 eq => by
    have ok1 : okR (sclR d r) := ok_of_top (by
      rw [g_scl]; refine Int.mul_ne_zero d0 ?_
      unfold sclR; rw [List.length_map]; exact okR_last okr nr)
    have n1 : sclR d r ≠ [] := fun z => nr (by unfold sclR at z; simpa using z)
    obtain ⟨w, _, nw, lw, _⟩ := Dv.fac ⟨q, fun x => by rw [ev_scl]; exact eq x⟩ okB nB ok1 n1
    have l0 : 0 < w.length := List.length_pos_iff.mpr nw
    have : (sclR d r).length = r.length := by unfold sclR; rw [List.length_map]
    omega
  by_cases nA : A = []
  · exact rest 1 (sclR (-1) f) (by decide) fun x => by
      have := e x
      rw [nA, ev_nil] at this
      rw [ev_scl]; grind
  · obtain ⟨_, _, _, a, d, a0, d0, eq⟩ := h.2.2 nA
    exact rest a (addR (sclR (c * d) t) (sclR (-a) f)) a0 fun x => by
      have e1 := e x
      have e2 := eq x
      rw [ev_add, ev_scl, ev_scl]
      grind
theorem ov_some {A B f : List Int} {c : Int} (okB : okR B) (nB : B ≠ []) (c0 : c ≠ 0) (okA : okR A) (okf : okR f) (e : ∀ x, c * ev x A = ev x f * ev x B) : Ov A B (primeI f) := by
  by_cases nf : f = []
  · subst nf
    have : A = [] := nil_of okA fun x => by
      have := e x
      rw [ev_nil, Int.zero_mul] at this
      exact (Int.mul_eq_zero.mp this).resolve_left c0
    exact ⟨okR_primeI okf, fun _ => rfl, fun z => absurd this z⟩
  · obtain ⟨a, a0, _, ea⟩ := prime_ev okf nf
    refine ⟨okR_primeI okf, fun z => ?_, fun _ => ⟨prime_ne nf, G_lone okf nf, prime_pos okf nf, c, a, c0, a0, fun x => by rw [e x, ea x]; grind⟩⟩
    exact absurd (show trimI (mulR f B) = [] from nil_of (okR_trim _) fun x => by rw [ev_trim, ev_mul, ← e x, z, ev_nil, Int.mul_zero]) (mul_ne okf okB nf nB)
/-! plain rows -/
/-- the derivative -/
def slo (r : List Int) : List Int := trimI ((List.range (r.length - 1)).map fun k => ((k + 1 : Nat) : Int) * g r (k + 1))
theorem slo_g (r : List Int) (k : Nat) : g (slo r) k = ((k + 1 : Nat) : Int) * g r (k + 1) := by
  unfold slo
  rw [g_trim, range_g]
  split
  · rfl
  · rw [g_none (r := r) (by omega), Int.mul_zero]
theorem slo_ok (r : List Int) : okR (slo r) := okR_trim _
theorem slo_eq {r s : List Int} (ok : okR s) (h : ∀ k, g s k = ((k + 1 : Nat) : Int) * g r (k + 1)) : s = slo r := row_ext ok (slo_ok r) fun k => by rw [h, slo_g]
theorem slo_len (r : List Int) : (slo r).length ≤ r.length - 1 := by
  unfold slo
  exact Nat.le_trans (trimBy_len _ _) (by rw [List.length_map, List.length_range]; exact Nat.le_refl _)
theorem slo_scale {r s : List Int} {d : Int} (h : ∀ k, g r k = d * g s k) (x : Int) : ev x (slo r) = d * ev x (slo s) := by
  rw [← ev_scl]
  exact ev_ext x fun k => by rw [g_scl, slo_g, slo_g, h]; grind
def Pl (r t : List Int) : Prop := ∃ G, Gc r (slo r) G ∧ Ov r G t
theorem Pl.one {r t t' : List Int} (h : Pl r t) (k : Pl r t') : t = t' := by
  obtain ⟨G, a, b⟩ := h
  obtain ⟨G', a', b'⟩ := k
  rw [a'.one a] at b'
  exact b.one a.ok a.ne b'
theorem gc_const {F : List Int} {a : Int} {G : List Int} (a0 : a ≠ 0) (h : Gc F [a] G) : G = [1] := by
  have ok : okR [a] := fun c hc => by simp at hc; omega
  obtain ⟨q, _, nq, lq, _⟩ := h.dR.fac h.ok h.ne ok (by simp)
  have : 0 < q.length := List.length_pos_iff.mpr nq
  have lG : 0 < G.length := List.length_pos_iff.mpr h.ne
  have l1 : G.length = 1 := by simp at lq; omega
  obtain ⟨u, hu⟩ := List.length_eq_one_iff.mp l1
  have p := h.pos
  have l := h.lone
  rw [hu] at p l
  rw [hu, lone_single l p]
theorem ev_one (x : Int) : ev x [1] = 1 := by show 1 + x * 0 = 1; omega
theorem pl_of_one {r : List Int} (ok : okR r) (ne : r ≠ []) (h : Gc r (slo r) [1]) : Pl r (primeI r) := by
  obtain ⟨a, a0, _, ea⟩ := prime_ev ok ne
  exact ⟨[1], h, okR_primeI ok, fun z => absurd z ne, fun _ => ⟨prime_ne ne, G_lone ok ne, prime_pos ok ne, 1, a, by decide, a0, fun x => by rw [ea x, ev_one]; grind⟩⟩
theorem pl_short {r : List Int} (ok : okR r) (ne : r ≠ []) (l : r.length ≤ 2) : Pl r (if r.length = 2 then primeI r else [1]) := by
  have l0 : 0 < r.length := List.length_pos_iff.mpr ne
  obtain ⟨G, hG⟩ := gc_ex ok (slo_ok r) ne
  rcases Nat.lt_or_ge r.length 2 with c | c
  · rw [if_neg (by omega)]
    have e : slo r = [] := List.length_eq_zero_iff.mp (by have := slo_len r; omega)
    have gn := gc_nil ok ne
    rw [e] at hG
    have l1 : r.length = 1 := by omega
    obtain ⟨a, ha⟩ := List.length_eq_one_iff.mp l1
    have p1 : primeI r = [1] := by
      obtain ⟨u, hu⟩ := List.length_eq_one_iff.mp ((len_primeI r).trans l1)
      have p := prime_pos ok ne
      have l := G_lone ok ne
      rw [hu] at p l
      rw [hu, lone_single l p]
    rw [p1] at gn
    have := pl_of_one ok ne (by rw [e]; exact gn)
    rwa [p1] at this
  · have l2 : r.length = 2 := by omega
    rw [if_pos l2]
    have hl := okR_last ok ne
    rw [l2] at hl
    have e : slo r = [g r 1] := row_ext (slo_ok r) (fun c hc => by simp at hc; rw [← hc]; exact hl) fun k => by
      rw [slo_g]
      cases k with
      | zero => show ((1 : Nat) : Int) * g r 1 = g r 1; omega
      | succ k => rw [g_none (r := r) (by omega)]; show _ = (0 : Int); omega
    rw [e] at hG
    have := gc_const hl hG
    rw [this, ← e] at hG
    exact pl_of_one ok ne hG
theorem slo_ne {r : List Int} (ok : okR r) (l : 2 ≤ r.length) : slo r ≠ [] := fun z => by
  have e := slo_g r (r.length - 2)
  rw [z, show r.length - 2 + 1 = r.length - 1 by omega] at e
  have := okR_last ok (by intro z; rw [z] at l; simp at l)
  have h0 : g ([] : List Int) (r.length - 2) = 0 := rfl
  rw [h0] at e
  rcases Int.mul_eq_zero.mp e.symm with q | q
  · omega
  · exact this q
/-- by the prime part -/
theorem pl_prime {r G t : List Int} (ok : okR r) (ne : r ≠ []) (h : Gc (primeI r) (slo (primeI r)) G) (hq : ∀ x, ev x (primeI r) = ev x t * ev x G) (okt : okR t) : Pl r t := by
  obtain ⟨d, d0, _, _, e⟩ := prime_rel ok ne
  have ed : ∀ x, ev x r = d * ev x (primeI r) := fun x => by rw [← ev_scl]; exact ev_ext x fun k => by rw [g_scl]; exact e k
  have hG : Gc r (slo r) G := h.scale (a := 1) (b := d) (c := 1) (d := d) (by decide) d0 (by decide) d0 (fun x => by rw [ed x]; omega) (fun x => by rw [slo_scale e x]; omega)
  have pG : primeI G = G := prime_lone h.ok h.ne h.lone h.pos
  exact ⟨G, hG, ov_of_quot ok h.ok ne h.ne okt (by rw [pG]; exact hq)⟩
end K03

set_option Elab.async false
set_option linter.all false
set_option maxRecDepth 100000
set_option maxHeartbeats 4000000
local macro_rules | `(tactic| walk_at "rd") => `(tactic| dsimp only [Evl.tCut, L2.tSeq, L2.tNext, L2.tRet, L2.tRetN, L2.tAsg, L2.gName, L2.tIfS, L2.tDrop, L2.tCons, L2.tNil, L2.tC, L2.tVar, L2.tCB, L2.tAndV, L2.tOrV, L2.tNotV, L2.tB, L2.tTest, L2.tOp, L2.tUn, L2.tNot, L2.tAnd, L2.tOr, L2.tIf, L2.tCall, L2.tTup, L2.tLst, L2.tNotT, L2.tYes, L2.gTup, L2.gCons, L2.gNil, L2.gSub, L2.tBM0, L2.tBM, L2.tWhile, L2.tFor, L2.iRng1, L2.iRng2, L2.tAugS, Tw.iEnumT, L2.tCKw, L2.tAug, L2.ipI, RT.iRevA, L2.tPar, L2.tPar3, L2.tSl, L2.tNoPart, L2.tPart, Tw.tRevT])
namespace K03
open PySem PySem.Spec PyProof.Rows L2 Tw
section
variable {K : PySem.W.Frag} {wi : TI} {j : Nat} {elt : TE} {vs : List Nat} {σ : L2.St} {H : Hp} {Q : VK}
/-- [.. for x in a tuple of ints that is made there and then] -/
theorem lc_intsS (r : List Int) (f : Int → Int) (hi : ∀ R : It → Hp → Prop, (∀ z H1, Same H H1 → H1 z = some (.tup (r.map V.int)) → R (Itt K z) H1) → wi σ H R) (hn : r.length < 100000)
    (hw : ∀ x, wipe ((wipe σ vs).set j (some x)) vs = wipe σ vs)
    (he : ∀ d H1, d ∈ r → Same H H1 → ∀ Z : VK, Z (.int (f d)) H1 → elt ((wipe σ vs).set j (some (.int d))) H1 Z)
    (q : ∀ D H', Same H H' → H D = none → H' D = some (.lst ((r.map f).map V.int)) → Q (.ref D) H') : tLc wi (gName j) tYes elt vs σ H Q := by
  refine hi _ fun z H1 s1 ez D hD => ?_
  refine lc_tup (xs := r.map V.int) (fun m H' => Same H1 H' ∧ H' D = some (.lst (((r.take m).map f).map V.int))) ⟨same_new hD, upd_same⟩ (fun m H' _ h => SqT.of (h.1 _ _ ez)) (fun m x H2 hx h => ?_) (fun H' h => ?_)
  · obtain ⟨s2, eD⟩ := h
    rw [List.getElem?_map] at hx
    cases hd : r[m]? with
    | none => rw [hd] at hx; cases hx
    | some d =>
      rw [hd] at hx
      cases hx
      refine ⟨hw _, ?_⟩
      unfold tYes
      simp only [if_true]
      refine he d H2 (List.mem_of_getElem? hd) (s1.trans s2) _ ⟨_, eD, lt_line (by rw [List.length_map, List.length_map, List.length_take]; omega), same_upd s2 hD, ?_⟩
      rw [upd_same, List.take_add_one, hd, List.map_append, List.map_append]
      rfl
  · obtain ⟨s2, eD⟩ := h
    rw [List.length_map, List.take_length] at eD
    exact q D H' (s1.trans s2) (s1.free hD) eD
end
section
variable {P : Program} {w : World} {K : PySem.W.Frag} {mg : Str → Option Value} {base : Heap}
theorem scPrime : FnScope ["_law_line_here", "_law_found", "_law_each"] ["_law_line_here"] (defScope sPrime) := ⟨rfl, rfl, rfl, by decide +kernel, rfl, by decide +kernel, by decide +kernel⟩
theorem ok_prime (D : Def K mg "_law_prime" sPrime ["_law_line_here"]) (nb : Nb mg) (c1 : Cal P w K mg base "_law_thin" 33 ["_law_line_here"] spThin) : Cal P w K mg base "_law_prime" 34 ["_law_line_here"] spPrime := by
  refine D.ok scPrime (fun vs H Q E h => ?_) (fun f cdv A out s H vs Q E hr h => ?_)
  · obtain ⟨u, r, rfl, _⟩ := h; rfl
  obtain ⟨u, r, rfl, hu, okr, lr, q⟩ := h
  refine ⟨_, pss_cons (ps_set (i := 1) scPrime.nd rfl (Or.inl rfl) (pe_cal c1 hr (by decide) (by rfl) (pa_cons (pv 0) pa_nil)))
    (pss_one (ps_ret (pe_ifExp (PW.pt (pw_or (pt_cmpR (op_eqT0 hr.units) (pv 0) (pe_tup pa_nil) (nomark _)) (pw_or1 (pt_cmpR op_gt (pe_ix ix_tup (pv 0) (pe_un un_neg pe_int) (fun _ _ => rfl)) pe_int (nomark _)))))
      (pv 1) (pe_callTy (T := "tuple") call_tuple_of (by rfl) nb.tup (by decide +kernel) (pa_cons (pe_lc (own := [("_law_each", 2)]) (g := gName 2) (tt := tYes) rfl scPrime.nd (pi_tup (pv 1)) (blkOk_by (N := ["_law_line_here", "_law_found", "_law_each"]) (sc := defScope sPrime) (by decide +kernel))
        (fun _ _ _ _ _ => pg_name (i := 2) scPrime.nd rfl (Or.inl rfl)) (fun _ _ _ _ _ => pts_nil) (fun _ _ _ _ _ => pe_op op_sub pe_int (pv 2))) pa_nil))))), ?_⟩
  walk_at "rd"
  obtain ⟨pu, rfl, eu⟩ := hu
  refine ⟨.ref pu, rfl, .ref pu, r, rfl, ⟨pu, rfl, eu⟩, okr, lr, fun z H1 s1 rz => ?_⟩
  obtain ⟨pz, rfl, ez⟩ := rz
  refine ⟨.ref pu, rfl, sz (by decide), fun t nt => ?_⟩
  have s2 := same_new (o := .tup []) nt
  have s12 := s1.trans s2
  refine ⟨pu, t, r.map V.int, [], rfl, rfl, SqT.of (s12 _ _ eu), SqT.of upd_same, rfl, (r.map V.int).isEmpty, rfl, ?_⟩
  have ez2 := s2 _ _ ez
  generalize upd H1 t (.tup []) = H2 at s2 s12 ez2 ⊢
  have emp : (r.map V.int).isEmpty = r.isEmpty := by cases r <;> rfl
  rw [emp]
  cases er : r.isEmpty with
  | true =>
    have e0 : r = [] := by simpa using er
    refine iteT ⟨.ref pz, rfl, q _ H2 s12 ⟨pz, rfl, ?_⟩⟩
    rw [ez2]
    subst e0
    rfl
  | false =>
    have ne : r ≠ [] := fun z => by rw [z] at er; cases er
    have l0 : 0 < r.length := List.length_pos_iff.mpr ne
    have hl : r.length - 1 < r.length := by omega
    have at1 : atI (r.map V.int) (-1) = some (.int r[r.length - 1]) := atI_end (by rw [List.getLast?_eq_getElem?, List.length_map, List.getElem?_map, List.getElem?_eq_getElem hl]; rfl)
    refine iteF ⟨.ref pu, rfl, 1, rfl, pu, _, -1, _, rfl, rfl, SqT.of (s12 _ _ eu), at1, _, _, rfl, rfl, _, rfl, ite2 (fun c => ?_) (fun c => ?_)⟩
    · have c := of_decide_eq_true c
      refine ⟨.ref pz, rfl, q _ H2 s12 ⟨pz, rfl, ?_⟩⟩
      rw [ez2]
      unfold primeI
      rw [if_pos (.inl (by rw [g_some hl]; exact c))]
    · have c' : ¬ (0 < r[r.length - 1]) := fun z => c (decide_eq_true z)
      refine lc_relT (S := fun _ v k => v = V.int k) (R := fun _ v k => v = V.int k) (g := fun x => 0 - x) (rs := r.map fun c => c / (G 0 r : Int)) (p := pz) (xs := (r.map fun c => c / (G 0 r : Int)).map V.int) (stable_eq _) (stable_eq _) rfl ez2 (RelA.of_map _) (by rw [List.length_map]; omega) (fun x => wipeJ _ _ _) (fun x d H3 hd s3 rx Z hZ => ?_) fun L ys H3 s3 nL eL ry => ?_
      · subst rx
        exact ⟨.int d, rfl, _, _, rfl, rfl, hZ _ _ (Same.refl _) rfl⟩
      · have ey := RelA.eq_map ry
        refine ⟨L, _, rfl, .inl ⟨SqL.of eL, fun t nt => ?_⟩⟩
        refine q _ _ ((s12.trans s3).trans (same_new nt)) ⟨t, rfl, ?_⟩
        rw [upd_same, ey]
        unfold primeI
        rw [if_neg (fun z => z.elim (fun z => c' (by rw [g_some hl] at z; exact z)) ne)]
        simp only [List.map_map]
        rfl
end
end K03

set_option Elab.async false
set_option linter.all false
set_option maxRecDepth 100000
set_option maxHeartbeats 4000000
local macro_rules | `(tactic| walk_at "rd") => `(tactic| dsimp only [Evl.tCut, L2.tSeq, L2.tNext, L2.tRet, L2.tRetN, L2.tAsg, L2.gName, L2.tIfS, L2.tDrop, L2.tCons, L2.tNil, L2.tC, L2.tVar, L2.tCB, L2.tAndV, L2.tOrV, L2.tNotV, L2.tB, L2.tTest, L2.tOp, L2.tUn, L2.tNot, L2.tAnd, L2.tOr, L2.tIf, L2.tCall, L2.tTup, L2.tLst, L2.tNotT, L2.tYes, L2.gTup, L2.gCons, L2.gNil, L2.gSub, L2.tBM0, L2.tBM, L2.tWhile, L2.tFor, L2.iRng1, L2.iRng2, L2.tAugS, Tw.iEnumT, L2.tCKw, L2.tAug, L2.ipI, RT.iRevA, L2.tPar, L2.tPar3, L2.tSl, L2.tNoPart, L2.tPart, Tw.tRevT])
namespace K03
open PySem PySem.Spec PyProof.Rows L2 Tw
def rGetL (K : PySem.W.Frag) : V → V → Hp → VK → Prop := fun o i H Q => ∃ (p : Addr) (xs : List V) (j : Nat) (x : V), o = .ref p ∧ i = .int (j : Int) ∧ SqL K H p xs ∧ xs[j]? = some x ∧ Q x H
section
variable {X : Cx}
theorem get_l : PGet X (rGetL X.K) := by
  intro pins s σ H o i ov iv Q I ro ri h
  obtain ⟨p, xs, j, x, rfl, rfl, hq, hx, q⟩ := h
  cases ro
  obtain ⟨t, rfl⟩ := ri
  obtain ⟨its, r, pl, hz⟩ := I.list hq
  obtain ⟨w, ew, rw'⟩ := r.get hx
  have hl := r.length
  have hj : j < its.length := (List.getElem?_eq_some_iff.mp ew).1
  have hn := line63
  exact wpAny_getItem_list (x := w) pl.isList (by omega) (by omega) (by rw [Int.toNat_natCast]; simpa using ew) ⟨x, H, I, rw', q⟩
end
def spMulR : Sp := fun vs H Q _ => ∃ u v r s, vs = [u, v] ∧ Ro H u r ∧ Ro H v s ∧ okR r ∧ okR s ∧ r.length ≤ 100 ∧ s.length ≤ 100 ∧ min r.length s.length ≤ 6 ∧ CM r s ∧ ∀ z t H', Same H H' → Ro H' z t → okR t → (∀ k, g t k = cv (g r) (g s) k) → Q z H'
def spShared : Sp := fun vs H Q _ => ∃ p l, vs = [.ref p] ∧ H p = some (.tup (l.map V.int)) ∧ ∀ H', Same H H' → Q (.int (G 0 l : Nat)) H'
def spDeriv : Sp := fun vs H Q _ => ∃ u r, vs = [u] ∧ Ro H u r ∧ okR r ∧ r.length ≤ 100 ∧ ∀ z t H', Same H H' → Ro H' z t → okR t → (∀ k, g t k = ((k + 1 : Nat) : Int) * g r (k + 1)) → Q z H'
theorem okR_scaled {r : List Int} {c : Int} (h : okR r) (n : c ≠ 0) : okR (r.map fun x => c * x) := fun d hd => by
  rw [List.getLast?_map] at hd
  cases e : r.getLast? with
  | none => rw [e] at hd; cases hd
  | some x =>
    rw [e] at hd
    cases hd
    exact Int.mul_ne_zero n (h x e)
def spDivided : Sp := fun vs H Q _ => ∃ u r c, vs = [u, .int c] ∧ Ro H u r ∧ r.length ≤ 100 ∧ c ≠ 0 ∧ ∀ z H', Same H H' → Ro H' z (r.map fun x => x.fdiv c) → Q z H'
section
variable {P : Program} {w : World} {K : PySem.W.Frag} {mg : Str → Option Value} {base : Heap}
theorem scShared : FnScope ["numbers", "found", "n"] ["numbers"] (defScope sShared) := ⟨rfl, rfl, rfl, by decide +kernel, rfl, by decide +kernel, by decide +kernel⟩
theorem ok_shared (D : Def K mg "shared_by" sShared ["numbers"]) (nb : Nb mg) : Cal P w K mg base "shared_by" 1 ["numbers"] spShared := by
  refine D.ok scShared (fun vs H Q E h => ?_) (fun f cdv A out s H vs Q E hr h => ?_)
  · obtain ⟨p, l, rfl, _⟩ := h; rfl
  obtain ⟨p, l, rfl, e, q⟩ := h
  refine ⟨_, pss_cons (ps_set (i := 1) scShared.nd rfl (Or.inl rfl) pe_int)
    (pss_cons (ps_for PassesOwn.never rfl (pi_tup (pv 0)) (pg_name (i := 2) scShared.nd rfl (Or.inl rfl))
      (pss_cons (ps_set (i := 1) scShared.nd rfl (Or.inl rfl) (pe_callBfun cr_gcd (by rfl) nb.gc (pa_cons (pv 1) (pa_cons (pv 2) pa_nil))))
      (pss_one (ps_if (pt_cmpR op_eq (pv 1) pe_int (nomark _)) (pss_one (ps_ret pe_int)) pss_nil))))
    (pss_one (ps_ret (pv 1)))), ?_⟩
  walk_at "rd"
  refine ⟨.ref p, rfl, p, rfl, ⟨_, SqT.of e⟩, for_tup (xs := l.map V.int) (fun i σ H' => ∃ (x2 : Option V), σ = [some (.ref p), some (.int (G 0 (l.take i) : Nat)), x2] ∧ H' = H) ?_ ?_ ?_ ?_⟩
  · exact ⟨none, rfl, rfl⟩
  · rintro i σ H1 hi ⟨x2, rfl, rfl⟩
    exact SqT.of e
  · rintro i x σ H1 hx ⟨x2, rfl, rfl⟩
    rw [List.getElem?_map] at hx
    cases hl : l[i]? with
    | none => rw [hl] at hx; cases hx
    | some c =>
      rw [hl] at hx
      cases hx
      have eg : Nat.gcd (G 0 (l.take i)) c.natAbs = G 0 (l.take (i + 1)) := by
        rw [List.take_add_one, hl]
        exact (G_append _ _ _).symm
      refine ⟨_, rfl, .int c, rfl, _, c, rfl, ?_⟩
      rw [Int.natAbs_natCast, eg]
      refine ⟨_, rfl, rfl, _, rfl, ?_⟩
      rw [dec_int]
      by_cases z : G 0 (l.take (i + 1)) = 1
      · rw [z]
        refine iteT ?_
        have := q H1 (Same.refl _)
        rw [G_early z] at this
        exact this
      · rw [show (((G 0 (l.take (i + 1)) : Nat) : Int) == 1) = false from beq_eq_false_iff_ne.mpr (by omega)]
        exact iteF ⟨some (.int c), rfl, rfl⟩
  · rintro σ H1 ⟨x2, rfl, rfl⟩
    refine ⟨_, rfl, ?_⟩
    rw [List.length_map, List.take_length]
    exact q _ (Same.refl _)
theorem scPRTimes : FnScope ["row", "other", "bits", "found", "k", "number", "at", "factor"] ["row", "other"] (defScope sPRTimes) := ⟨rfl, rfl, rfl, by decide +kernel, rfl, by decide +kernel, by decide +kernel⟩
theorem ok_prtimes (D : Def K mg "row_times" sPRTimes ["row", "other"]) (nb : Nb mg) (ne : mg "enumerate" = none) (ns : ∃ t, mg "SHORT" = some (.int 6 t)) : Cal P w K mg base "row_times" 1 ["row", "other"] spMulR := by
  refine D.ok scPRTimes (fun vs H Q E h => ?_) (fun f cdv A out s H vs Q E hr h => ?_)
  · obtain ⟨u, v, r, s, rfl, _⟩ := h; rfl
  obtain ⟨u, v, r, t, rfl, hu, hv, okr, okt, lr, lt, lmin, cm, q⟩ := h
  obtain ⟨tk, ns⟩ := ns
  refine ⟨_, pss_cons (ps_if (PW.pt (pw_or (pt_not (pt_truth (pv 0) (fun _ => rfl))) (pw_or1 (pt_not (pt_truth (pv 1) (fun _ => rfl)))))) (pss_one (ps_ret (pe_tup pa_nil))) pss_nil)
    (Evl.pss_cut (ps_if (pt_cmpR op_lt (pe_callB (id := "len") (r := rLn K) call_len_seq (by rfl) nb.len PySem.boot_len (pa_cons (pv 0) pa_nil)) (pe_callB (id := "len") (r := rLn K) call_len_seq (by rfl) nb.len PySem.boot_len (pa_cons (pv 1) pa_nil)) (nomark _))
        (pss_one (ps_par (i := 0) (j := 1) rfl scPRTimes.nd rfl rfl (by decide) rfl rfl (pa_cons (pv 1) (pa_cons (pv 0) pa_nil)) rfl)) pss_nil)
    (pss_cons (ps_if (pt_cmpR op_gt (pe_callB (id := "len") (r := rLn K) call_len_seq (by rfl) nb.len PySem.boot_len (pa_cons (pv 1) pa_nil)) (pe_glob (v := .int 6) (by rfl) ns ⟨tk, rfl⟩) (nomark _)) pss_dead pss_nil)
    (pss_cons (ps_set (i := 3) scPRTimes.nd rfl (Or.inl rfl) (pe_op op_rep (pe_lst (pa_cons pe_int pa_nil)) (pe_op op_sub (pe_op op_add (pe_callB (id := "len") (r := rLn K) call_len_seq (by rfl) nb.len PySem.boot_len (pa_cons (pv 0) pa_nil)) (pe_callB (id := "len") (r := rLn K) call_len_seq (by rfl) nb.len PySem.boot_len (pa_cons (pv 1) pa_nil))) pe_int)))
    (pss_cons (ps_for PassesOwn.never rfl (pi_enumT (by rfl) ne (pv 1)) (pg_tup rfl (pgs_cons (pg_name (i := 4) scPRTimes.nd rfl (Or.inl rfl)) (pgs_cons (pg_name (i := 5) scPRTimes.nd rfl (Or.inl rfl)) pgs_nil)))
        (pss_one (ps_if (pt_truth (pv 5) (fun _ => rfl))
          (pss_one (ps_for PassesOwn.never rfl (pi_enumT (by rfl) ne (pv 0)) (pg_tup rfl (pgs_cons (pg_name (i := 6) scPRTimes.nd rfl (Or.inl rfl)) (pgs_cons (pg_name (i := 7) scPRTimes.nd rfl (Or.inl rfl)) pgs_nil)))
            (pss_one (ps_augS (pv 3) (pe_op op_add (pv 6) (pv 4)) get_l (pe_op op_mulX (pv 7) (pv 5)) ip_add set_list)))) pss_nil)))
    (pss_one (ps_ret (pe_callTy (T := "tuple") call_tuple_of (by rfl) nb.tup (by decide +kernel) (pa_cons (pv 3) pa_nil)))))))), ?_⟩
  walk_at "rd"
  obtain ⟨pu, rfl, eu⟩ := hu
  obtain ⟨pw, rfl, ev⟩ := hv
  have emp : ∀ l : List Int, (l.map V.int).isEmpty = l.isEmpty := fun l => by cases l <;> rfl
  have ret0 : (∀ k, cv (g r) (g t) k = 0) → ([] : List V).length ≤ sizeLine ∧ ∀ p, H p = none → Q (.ref p) (upd H p (.tup [])) := fun hz =>
    ⟨sz (by simp), fun p np => q _ [] _ (same_new np) ⟨p, rfl, upd_same⟩ okR_nil fun k => (hz k).symm⟩
  refine ⟨.ref pu, rfl, _, .inr (.inl ⟨_, SqT.of eu, rfl⟩), ?_⟩
  rw [emp]
  cases er : r.isEmpty with
  | true =>
    have : r = [] := by simpa using er
    exact iteT (iteT (ret0 fun k => cv_zero (fun i => by rw [this]; rfl) k))
  | false =>
  refine iteF ⟨.ref pw, rfl, _, .inr (.inl ⟨_, SqT.of ev, rfl⟩), ?_⟩
  rw [emp]
  cases et : t.isEmpty with
  | true =>
    have : t = [] := by simpa using et
    exact iteT (ret0 fun k => by rw [cv_comm]; exact cv_zero (fun i => by rw [this]; rfl) k)
  | false =>
  refine iteF ?_
  have nr : r ≠ [] := fun z => by rw [z] at er; cases er
  have nt : t ≠ [] := fun z => by rw [z] at et; cases et
  refine ⟨fun σ H' => ∃ (pa pb : Addr) (a b : List Int), σ = [some (.ref pa), some (.ref pb), none, none, none, none, none, none] ∧ H' = H ∧ H pa = some (.tup (a.map V.int)) ∧ H pb = some (.tup (b.map V.int)) ∧ b.length ≤ 6 ∧ a.length ≤ 100 ∧ okR a ∧ okR b ∧ a ≠ [] ∧ b ≠ [] ∧ CM a b ∧ a.length + b.length = r.length + t.length ∧ ∀ k, cv (g b) (g a) k = cv (g r) (g t) k, ?_, ?_⟩
  · refine ⟨.ref pu, rfl, pu, _, rfl, .inr (SqT.of eu), .ref pw, rfl, pw, _, rfl, .inr (SqT.of ev), _, _, rfl, rfl, _, rfl, ite2 (fun c => ?_) (fun c => ?_)⟩
    · have c := of_decide_eq_true c
      rw [List.length_map, List.length_map] at c
      exact ⟨.ref pw, rfl, .ref pu, rfl, _, _, rfl, pw, pu, t, r, rfl, rfl, ev, eu, by omega, lt, okt, okr, nt, nr, cm.symm, by omega, fun k => rfl⟩
    · have c : ¬ ((r.length : Int) < (t.length : Int)) := fun z => c (decide_eq_true (by rw [List.length_map, List.length_map]; exact z))
      exact ⟨pu, pw, r, t, rfl, rfl, eu, ev, by omega, lr, okr, okt, nr, nt, cm, rfl, fun k => cv_comm _ _ _⟩
  clear eu ev
  rintro σ H0 ⟨pa, pb, a, b, rfl, rfl, ea, eb, lb, la, oka, okb, na, nb', cm, lab, cs⟩
  have la0 : 0 < a.length := List.length_pos_iff.mpr na
  have lb0 : 0 < b.length := List.length_pos_iff.mpr nb'
  refine ⟨.ref pb, rfl, pb, _, rfl, .inr (SqT.of eb), _, _, rfl, rfl, _, rfl, ite2 (fun c => ?_) (fun _ => ?_)⟩
  · have c := of_decide_eq_true c
    rw [List.length_map] at c
    omega
  refine ⟨sz (by simp), fun L0 nL0 => ?_⟩
  have s0 := same_new (o := .lst [.int 0]) nL0
  refine ⟨.ref pa, rfl, pa, _, rfl, .inr (SqT.of (s0 _ _ ea)), .ref pb, rfl, pb, _, rfl, .inr (SqT.of (s0 _ _ eb)), _, _, rfl, rfl, _, _, rfl, rfl, L0, _, _, rfl, rfl, upd_same, by rw [List.length_map, List.length_map]; omega, by rw [List.length_map, List.length_map]; omega, ?_, fun L nL => ?_⟩
  · have := sz (n := ((a.map V.int).length + (b.map V.int).length)) (by rw [List.length_map, List.length_map]; omega)
    show 1 * _ ≤ _
    rw [Nat.one_mul]
    omega
  have el0 : ((((a.map V.int).length : Nat) : Int) + (((b.map V.int).length : Nat) : Int) - 1).toNat = a.length + b.length - 1 := by rw [List.length_map, List.length_map]; omega
  rw [el0, flat_one]
  have nL' : H0 L = none := s0.free nL
  have s1 := s0.trans (same_new (o := .lst (List.replicate (a.length + b.length - 1) (V.int 0))) nL)
  have eL : upd (upd H0 L0 (.lst [.int 0])) L (.lst (List.replicate (a.length + b.length - 1) (V.int 0))) L = some (.lst ((List.replicate (a.length + b.length - 1) (0 : Int)).map V.int)) := by
    rw [upd_same, List.map_replicate]
  generalize upd (upd H0 L0 (.lst [.int 0])) L _ = H1 at s1 eL ⊢
  refine ⟨.ref pb, rfl, pb, b.map V.int, rfl, SqT.of (s1 _ _ eb), for_enumT (xs := b.map V.int) (fun i σ H' => ∃ (x4 x5 x6 x7 : Option V) (l : List Int), σ = [some (.ref pa), some (.ref pb), none, some (.ref L), x4, x5, x6, x7] ∧ Same H0 H' ∧ H' L = some (.lst (l.map V.int)) ∧ l.length = a.length + b.length - 1 ∧ ∀ k, g l k = S i (fun j => if j ≤ k then g b j * g a (k - j) else 0)) ?_ ?_ ?_ ?_⟩
  · exact ⟨none, none, none, none, _, rfl, s1, eL, by simp, fun k => by
      unfold g
      rw [List.getD_eq_getElem?_getD, List.getElem?_replicate]
      split <;> rfl⟩
  · rintro i σ H' hi ⟨x4, x5, x6, x7, l, rfl, s', _⟩
    exact SqT.of (s' _ _ eb)
  · rintro i x p σ H' hx ⟨x4, x5, x6, x7, l, rfl, s', el, ll, cl⟩ np
    rw [List.getElem?_map] at hx
    cases hb : b[i]? with
    | none => rw [hb] at hx; cases hx
    | some c =>
    rw [hb] at hx
    cases hx
    have ib := (List.getElem?_eq_some_iff.mp hb).1
    have gb : g b i = c := by rw [g_some ib]; exact (List.getElem?_eq_some_iff.mp hb).2
    have s2 := s'.trans (same_new (o := .tup [.int (i : Nat), .int c]) np)
    have el2 : upd H' p (.tup [.int (i : Nat), .int c]) L = some (.lst (l.map V.int)) := by rw [upd_ne (ne_of_none el np)]; exact el
    refine ⟨p, _, rfl, SqT.of upd_same, rfl, _, _, rfl, _, _, rfl, rfl, ?_⟩
    generalize upd H' p (.tup [.int (i : Nat), .int c]) = H2 at s2 el2 ⊢
    refine ⟨.int c, rfl, _, rfl, ?_⟩
    by_cases c0 : c = 0
    · subst c0
      refine iteF ⟨some (.int (i : Nat)), some (.int 0), x6, x7, l, rfl, s2, el2, ll, fun k => ?_⟩
      rw [cl k, S, gb]
      split <;> omega
    rw [show (c != 0) = true from bne_iff_ne.mpr c0]
    refine iteT ⟨.ref pa, rfl, pa, a.map V.int, rfl, SqT.of (s2 _ _ ea), for_enumT (xs := a.map V.int) (fun m σ H' => ∃ (x6 x7 : Option V) (l : List Int), σ = [some (.ref pa), some (.ref pb), none, some (.ref L), some (.int (i : Nat)), some (.int c), x6, x7] ∧ Same H0 H' ∧ H' L = some (.lst (l.map V.int)) ∧ l.length = a.length + b.length - 1 ∧ ∀ k, g l k = S i (fun j => if j ≤ k then g b j * g a (k - j) else 0) + (if i ≤ k ∧ k - i < m then g b i * g a (k - i) else 0)) ?_ ?_ ?_ ?_⟩
    · exact ⟨x6, x7, l, rfl, s2, el2, ll, fun k => by rw [cl k, if_neg (by omega), Int.add_zero]⟩
    · rintro m σ H' hm ⟨x6, x7, l, rfl, s', _⟩
      exact SqT.of (s' _ _ ea)
    · rintro m x p σ H' hx ⟨x6, x7, l, rfl, s', el, ll, cl⟩ np
      rw [List.getElem?_map] at hx
      cases ha : a[m]? with
      | none => rw [ha] at hx; cases hx
      | some d =>
      rw [ha] at hx
      cases hx
      have im := (List.getElem?_eq_some_iff.mp ha).1
      have ga : g a m = d := by rw [g_some im]; exact (List.getElem?_eq_some_iff.mp ha).2
      have il : m + i < l.length := by omega
      have cmm := cm.get im ib
      rw [(List.getElem?_eq_some_iff.mp ha).2, (List.getElem?_eq_some_iff.mp hb).2] at cmm
      have s2 := s'.trans (same_new (o := .tup [.int (m : Nat), .int d]) np)
      have el2 : upd H' p (.tup [.int (m : Nat), .int d]) L = some (.lst (l.map V.int)) := by rw [upd_ne (ne_of_none el np)]; exact el
      refine ⟨p, _, rfl, SqT.of upd_same, rfl, _, _, rfl, _, _, rfl, rfl, ?_⟩
      generalize upd H' p (.tup [.int (m : Nat), .int d]) = H2 at s2 el2 ⊢
      have im2 : (m : Int) + (i : Int) = ((m + i : Nat) : Int) := by omega
      refine ⟨.ref L, rfl, .int (m : Nat), rfl, .int (i : Nat), rfl, _, _, rfl, rfl, ?_⟩
      walk_at "rd"
      rw [im2]
      refine ⟨L, _, m + i, .int l[m + i], rfl, rfl, SqL.of el2, by rw [List.getElem?_map, List.getElem?_eq_getElem il]; rfl, .int d, rfl, .int c, rfl, _, _, rfl, rfl, cmm, _, _, rfl, rfl, L, _, _, m + i, rfl, rfl, el2, Evl.ixN_nat (by rw [List.length_map]; exact il), ?_⟩
      refine ⟨some (.int (m : Nat)), some (.int d), l.set (m + i) (l[m + i] + d * c), rfl, same_upd s2 nL', by rw [upd_same, map_set'], by rw [List.length_set]; exact ll, fun k => ?_⟩
      rw [g_set il, cl k]
      by_cases e : k = m + i
      · subst e
        rw [if_pos rfl, if_pos (by omega), ← g_some il, cl (m + i), if_neg (by omega), show m + i - i = m from by omega, gb, ga, Int.add_zero, Int.mul_comm d c]
      · rw [if_neg e]
        congr 1
        by_cases e2 : i ≤ k ∧ k - i < m
        · rw [if_pos e2, if_pos (by omega)]
        · rw [if_neg e2, if_neg (by omega)]
    · rintro σ H' ⟨x6, x7, l, rfl, s', el, ll, cl⟩
      refine ⟨_, _, x6, x7, l, rfl, s', el, ll, fun k => ?_⟩
      rw [cl k, S, List.length_map]
      congr 1
      by_cases e : i ≤ k
      · rw [if_pos e]
        by_cases e2 : k - i < a.length
        · rw [if_pos ⟨e, e2⟩]
        · rw [if_neg (by omega), g_none (show a.length ≤ k - i by omega), Int.mul_zero]
      · rw [if_neg e, if_neg (by omega)]
  · rintro σ H' ⟨x4, x5, x6, x7, l, rfl, s', el, ll, cl⟩
    have cl' : ∀ k, g l k = cv (g b) (g a) k := fun k => by
      rw [cl k, List.length_map]
      exact cv_loop (fun i hi => g_none hi) k
    refine ⟨.ref L, rfl, L, _, rfl, .inl ⟨SqL.of el, fun p np => ?_⟩⟩
    exact q _ l _ (s'.trans (same_new np)) ⟨p, rfl, upd_same⟩ (okR_prod oka okb na nb' ll cl') fun k => (cl' k).trans (cs k)
theorem scDivided : FnScope ["row", "whole", "number"] ["row", "whole"] (defScope sDivided) := ⟨rfl, rfl, rfl, by decide +kernel, rfl, by decide +kernel, by decide +kernel⟩
theorem ok_divided (D : Def K mg "row_divided" sDivided ["row", "whole"]) (nb : Nb mg) (hN : base.NoSeer) (ht : P.given.tree = none) : Cal P w K mg base "row_divided" 33 ["row", "whole"] spDivided := by
  refine D.ok scDivided (fun vs H Q E h => ?_) (fun f cdv A out s H vs Q E hr h => ?_)
  · obtain ⟨u, r, c, rfl, _⟩ := h; rfl
  obtain ⟨u, r, c, rfl, hu, lr, hc, q⟩ := h
  refine ⟨_, pss_one (ps_ret (pe_callTy (T := "tuple") call_tuple_of (by rfl) nb.tup (by decide +kernel) (pa_cons (pe_lc (own := [("number", 2)]) (g := gName 2) (tt := tYes) rfl scDivided.nd (pi_tup (pv 0)) (blkOk_by (N := ["row", "whole", "number"]) (sc := defScope sDivided) (by decide +kernel))
        (fun _ _ _ _ _ => pg_name (i := 2) scDivided.nd rfl (Or.inl rfl)) (fun _ _ _ _ _ => pts_nil) (fun _ _ _ _ _ => pe_op (op_fdivP (se_mk hN ht rfl ⟨rfl, rfl, rfl, rfl⟩) hr (by omega)) (pv 2) (pv 1))) pa_nil))), ?_⟩
  walk_at "rd"
  obtain ⟨pu, rfl, eu⟩ := hu
  refine lc_relT (S := fun _ v k => v = V.int k) (R := fun _ v k => v = V.int k) (g := fun x => x.fdiv c) (rs := r) (p := pu) (xs := r.map V.int) (stable_eq _) (stable_eq _) rfl eu (RelA.of_map _) (by omega) (fun x => wipeJ _ _ _) (fun x d H2 hd s2 rx Z hZ => ?_) fun L ys H2 s2 nL eL ry => ?_
  · subst rx
    have ne : r ≠ [] := fun z => by rw [z] at hd; cases hd
    exact ⟨.int d, rfl, .int _, rfl, _, _, rfl, rfl, hc, hZ _ _ (Same.refl _) rfl⟩
  · have ey := RelA.eq_map ry
    refine ⟨L, _, rfl, .inl ⟨SqL.of eL, fun t nt => ?_⟩⟩
    exact q _ _ (s2.trans (same_new nt)) ⟨t, rfl, by rw [upd_same, ey]⟩
theorem scPDeriv : FnScope ["row", "k", "number"] ["row"] (defScope sPDeriv) := ⟨rfl, rfl, rfl, by decide +kernel, rfl, by decide +kernel, by decide +kernel⟩
theorem ok_pderiv (D : Def K mg "row_derivative" sPDeriv ["row"]) (nb : Nb mg) (ne : mg "enumerate" = none) : Cal P w K mg base "row_derivative" 1 ["row"] spDeriv := by
  refine D.ok scPDeriv (fun vs H Q E h => ?_) (fun f cdv A out s H vs Q E hr h => ?_)
  · obtain ⟨u, r, rfl, _⟩ := h; rfl
  obtain ⟨u, r, rfl, hu, okr, lr, q⟩ := h
  refine ⟨_, pss_one (ps_ret (pe_callTy (T := "tuple") call_tuple_of (by rfl) nb.tup (by decide +kernel) (pa_cons (pe_slice sl_list
      (pe_lc (own := [("k", 1), ("number", 2)]) (g := gTup K 2 (gCons (gName 1) (gCons (gName 2) gNil))) (tt := tYes) rfl scPDeriv.nd (pi_enumT (by rfl) ne (pv 0)) (blkOk_by (N := ["row", "k", "number"]) (sc := defScope sPDeriv) (by decide +kernel))
        (fun _ _ _ _ _ => pg_tup rfl (pgs_cons (pg_name (i := 1) scPDeriv.nd rfl (Or.inl rfl)) (pgs_cons (pg_name (i := 2) scPDeriv.nd rfl (Or.inl rfl)) pgs_nil))) (fun _ _ _ _ _ => pts_nil) (fun _ _ _ _ _ => pe_op op_mul (pv 1) (pv 2)))
      (po_some pe_int) po_none) pa_nil))), ?_⟩
  walk_at "rd"
  obtain ⟨pu, rfl, eu⟩ := hu
  refine ⟨.ref pu, rfl, pu, r.map V.int, rfl, SqT.of eu, fun L nL => lc_enumT (xs := r.map V.int) (fun m H' => Same H H' ∧ ∃ l : List Int, H' L = some (.lst (l.map V.int)) ∧ l.length = m ∧ ∀ i, i < m → g l i = (i : Int) * g r i) ?_ ?_ ?_ ?_⟩
  · exact ⟨same_new nL, [], upd_same, rfl, fun i hi => (by omega)⟩
  · rintro i H' hi ⟨s', _⟩
    exact SqT.of (s' _ _ eu)
  · rintro i x t H' hx ⟨s', l, el, ll, cl⟩ nt
    rw [List.getElem?_map] at hx
    cases hb : r[i]? with
    | none => rw [hb] at hx; cases hx
    | some c =>
    rw [hb] at hx
    cases hx
    obtain ⟨ir, gr⟩ := List.getElem?_eq_some_iff.mp hb
    have grc : g r i = c := by rw [g_some ir]; exact gr
    have sp := same_new (o := .tup [.int (i : Nat), .int c]) nt
    have s2 := s'.trans sp
    have el2 := sp _ _ el
    refine ⟨t, _, rfl, SqT.of upd_same, rfl, _, _, rfl, _, _, rfl, rfl, ?_⟩
    generalize upd H' t (.tup [.int (i : Nat), .int c]) = H2 at s2 el2 ⊢
    refine ⟨rfl, .int (i : Nat), rfl, .int c, rfl, _, _, rfl, rfl, .inl ⟨by omega, by omega⟩, l.map V.int, el2, lt_line (by rw [List.length_map]; omega), same_upd s2 nL, l ++ [(i : Int) * c], by rw [upd_same, List.map_append]; rfl, by simp [ll], fun k hk => ?_⟩
    rcases Nat.lt_or_eq_of_le (Nat.le_of_lt_succ hk) with y | y
    · rw [← cl k y]
      unfold g
      rw [List.getD_eq_getElem?_getD, List.getD_eq_getElem?_getD, List.getElem?_append_left (by omega)]
    · have e : g (l ++ [(i : Int) * c]) k = (i : Int) * c := by
        unfold g
        rw [List.getD_eq_getElem?_getD, List.getElem?_append_right (by omega), show k - l.length = 0 from by omega]
        rfl
      rw [e, y, grc]
  · rintro H' ⟨s', l, el, ll, cl⟩
    rw [List.length_map] at ll cl
    have cut : L2.cutV (l.map V.int) (some (1 : Int)) none = (l.drop 1).map V.int := by
      unfold L2.cutV
      rw [show (some (1 : Int)) = some ((1 : Nat) : Int) from rfl, HT.sIx_nat, HT.sIx_none, List.length_map, List.map_drop]
      rcases Nat.eq_zero_or_pos l.length with c | c
      · have : l = [] := List.eq_nil_of_length_eq_zero c
        subst this
        rfl
      · rw [Nat.min_eq_left (by omega), List.take_of_length_le (by rw [List.length_drop, List.length_map]; omega)]
    have dg : ∀ k, g (l.drop 1) k = g l (k + 1) := fun k => by
      unfold g
      rw [List.getD_eq_getElem?_getD, List.getD_eq_getElem?_getD, List.getElem?_drop, Nat.add_comm]
    have all : ∀ k, g (l.drop 1) k = ((k + 1 : Nat) : Int) * g r (k + 1) := fun k => by
      rw [dg]
      rcases Nat.lt_or_ge (k + 1) r.length with c | c
      · exact cl _ c
      · rw [g_none (show l.length ≤ k + 1 by omega), g_none c, Int.mul_zero]
    have okl : okR (l.drop 1) := fun c hc => by
      rw [List.getLast?_eq_getElem?] at hc
      have hl := (List.getElem?_eq_some_iff.mp hc).1
      have e : g (l.drop 1) ((l.drop 1).length - 1) = c := by
        unfold g
        rw [List.getD_eq_getElem?_getD, hc]
        rfl
      rw [all] at e
      have l1 := List.length_drop (i := 1) (l := l)
      have ner : r ≠ [] := fun z => by rw [z] at ll; have ll2 : l.length = 0 := ll; omega
      have := okR_last okr ner
      rw [show (l.drop 1).length - 1 + 1 = r.length - 1 from by omega] at e
      rw [← e]
      have h1 : ((r.length - 1 : Nat) : Int) ≠ 0 := by omega
      exact Int.mul_ne_zero h1 this
    refine ⟨1, rfl, L, _, rfl, SqL.of el, fun c1' nc => ⟨c1', _, rfl, .inl ⟨SqL.of upd_same, fun t nt => ?_⟩⟩⟩
    rw [cut] at nt ⊢
    exact q _ (l.drop 1) _ (s'.trans ((same_new nc).trans (same_new nt))) ⟨t, rfl, upd_same⟩ okl all
theorem scPPrime : FnScope ["row", "shared"] ["row"] (defScope sPPrime) := ⟨rfl, rfl, rfl, by decide +kernel, rfl, by decide +kernel, by decide +kernel⟩
theorem ok_pprime (D : Def K mg "row_prime" sPPrime ["row"]) (c1 : Cal P w K mg base "shared_by" 1 ["numbers"] spShared) (c2 : Cal P w K mg base "row_divided" 33 ["row", "whole"] spDivided) : Cal P w K mg base "row_prime" 34 ["row"] spPrime := by
  refine D.ok scPPrime (fun vs H Q E h => ?_) (fun f cdv A out s H vs Q E hr h => ?_)
  · obtain ⟨u, r, rfl, _⟩ := h; rfl
  obtain ⟨u, r, rfl, hu, okr, lr, q⟩ := h
  refine ⟨_, pss_cons (ps_if (pt_not (pt_truth (pv 0) (fun _ => rfl))) (pss_one (ps_ret (pe_tup pa_nil))) pss_nil)
    (pss_cons (ps_set (i := 1) scPPrime.nd rfl (Or.inl rfl) (pe_cal c1 hr (by decide) (by rfl) (pa_cons (pv 0) pa_nil)))
    (Evl.pss_cut (ps_if (pt_cmpR op_lt (pe_ix ix_tup (pv 0) (pe_un un_neg pe_int) (fun _ _ => rfl)) pe_int (nomark _)) (pss_one (ps_set (i := 1) scPPrime.nd rfl (Or.inl rfl) (pe_un un_neg (pv 1)))) pss_nil)
    (pss_one (ps_ret (pe_ifExp (pt_cmpR op_eq (pv 1) pe_int (nomark _)) (pv 0) (pe_cal c2 hr (by decide) (by rfl) (pa_cons (pv 0) (pa_cons (pv 1) pa_nil)))))))), ?_⟩
  walk_at "rd"
  obtain ⟨pu, rfl, eu⟩ := hu
  have emp : (r.map V.int).isEmpty = r.isEmpty := by cases r <;> rfl
  refine ⟨.ref pu, rfl, _, .inr (.inl ⟨_, SqT.of eu, rfl⟩), ?_⟩
  rw [emp]
  cases er : r.isEmpty with
  | true =>
    have e0 : r = [] := by simpa using er
    subst e0
    exact iteT ⟨sz (by simp), fun t nt => q _ _ (same_new nt) ⟨t, rfl, by rw [upd_same]; rfl⟩⟩
  | false =>
    have ne : r ≠ [] := fun z => by rw [z] at er; cases er
    have l0 : 0 < r.length := List.length_pos_iff.mpr ne
    have hl : r.length - 1 < r.length := by omega
    have g0 := G_pos okr ne
    have h0 := okR_last okr ne
    rw [g_some hl] at h0
    have at1 : atI (r.map V.int) (-1) = some (.int r[r.length - 1]) := atI_end (by rw [List.getLast?_eq_getElem?, List.length_map, List.getElem?_map, List.getElem?_eq_getElem hl]; rfl)
    refine iteF ⟨.ref pu, rfl, pu, r, rfl, eu, fun H1 s1 => ?_⟩
    have e1 := s1 _ _ eu
    refine ⟨fun σ H' => ∃ s : Int, σ = [some (.ref pu), some (.int s)] ∧ H' = H1 ∧ (s = (G 0 r : Int) ∧ 0 < r[r.length - 1] ∨ s = -(G 0 r : Int) ∧ ¬ (0 < r[r.length - 1])), ?_, ?_⟩
    · refine ⟨.ref pu, rfl, 1, rfl, pu, _, -1, _, rfl, rfl, SqT.of e1, at1, _, _, rfl, rfl, _, rfl, ite2 (fun c => ?_) (fun c => ?_)⟩
      · have c := of_decide_eq_true c
        exact ⟨_, rfl, _, rfl, -(G 0 r : Int), rfl, rfl, .inr ⟨rfl, by omega⟩⟩
      · have c' : ¬ (r[r.length - 1] < 0) := fun z => c (decide_eq_true z)
        exact ⟨_, rfl, rfl, .inl ⟨rfl, by omega⟩⟩
    · rintro σ H2 ⟨s, rfl, rfl, hs⟩
      refine ⟨.int s, rfl, rfl, _, rfl, ?_⟩
      rw [dec_int]
      by_cases c : s = 1
      · subst c
        have : G 0 r = 1 ∧ 0 < r[r.length - 1] := by
          rcases hs with ⟨a, b⟩ | ⟨a, b⟩
          · exact ⟨by omega, b⟩
          · omega
        refine iteT ⟨.ref pu, rfl, q _ H2 s1 ⟨pu, rfl, ?_⟩⟩
        rw [e1]
        unfold primeI
        rw [if_pos (.inl (by rw [g_some hl]; exact this.2)), this.1]
        have id : r.map (fun c => c / ((1 : Nat) : Int)) = r := by
          refine (List.map_congr_left fun x _ => ?_).trans (List.map_id r)
          show x / ((1 : Nat) : Int) = x
          omega
        rw [id]
      · rw [show (s == 1) = false from beq_eq_false_iff_ne.mpr c]
        refine iteF ⟨.ref pu, rfl, .int s, rfl, .ref pu, r, s, rfl, ⟨pu, rfl, e1⟩, lr, by rcases hs with ⟨a, _⟩ | ⟨a, _⟩ <;> omega, fun z H3 s3 rz => ?_⟩
        have : primeI r = r.map fun x => x.fdiv s := by
          unfold primeI
          rcases hs with ⟨a, b⟩ | ⟨a, b⟩
          · rw [if_pos (.inl (by rw [g_some hl]; exact b))]
            exact List.map_congr_left fun x _ => by rw [a, fdiv_pos (by omega)]
          · rw [if_neg (fun z => z.elim (fun z => b (by rw [g_some hl] at z; exact z)) ne)]
            exact List.map_congr_left fun x hx => by rw [a, fdiv_neg (by omega) (G_int hx)]
        exact q z H3 (s1.trans s3) (by rw [this]; exact rz)
end
end K03

set_option Elab.async false
set_option linter.all false
set_option maxRecDepth 100000
set_option maxHeartbeats 8000000
local macro_rules | `(tactic| walk_at "rd") => `(tactic| dsimp only [Evl.tCut, L2.tSeq, L2.tNext, L2.tRet, L2.tRetN, L2.tAsg, L2.gName, L2.tIfS, L2.tDrop, L2.tCons, L2.tNil, L2.tC, L2.tVar, L2.tCB, L2.tAndV, L2.tOrV, L2.tNotV, L2.tB, L2.tTest, L2.tOp, L2.tUn, L2.tNot, L2.tAnd, L2.tOr, L2.tIf, L2.tCall, L2.tTup, L2.tLst, L2.tNotT, L2.tYes, L2.gTup, L2.gCons, L2.gNil, L2.gSub, L2.tBM0, L2.tBM, L2.tWhile, L2.tFor, L2.iRng1, L2.iRng2, L2.tAugS, Tw.iEnumT, L2.tCKw, L2.tAug, L2.ipI, RT.iRevA, L2.iRevR, L2.tPar, L2.tPar3, L2.tSl, L2.tNoPart, L2.tPart, Tw.tRevT, L2.rAdd, L2.rSub, L2.tBits])
namespace K03
open PySem PySem.Spec PyProof.Rows L2 Tw
theorem for_down {n : Nat} {B : (L2.St → Hp → Prop) → V → L2.St → Hp → Prop} {nx : L2.St → Hp → Prop} {σ : L2.St} {H : Hp} (Pv : Nat → L2.St → Hp → Prop) (h0 : Pv n σ H)
    (hs : ∀ k σ H, k < n → Pv (k + 1) σ H → B (Pv k) (.int (k : Int)) σ H) (hd : ∀ σ H, Pv 0 σ H → nx σ H) :
    ∃ W : Nat → Nat → L2.St → Hp → Prop, (∃ m, W 0 m σ H) ∧ ∀ i m σ H, W i m σ H →
      ((Itc ((0 : Int) + ((((n : Int) - 0).toNat : Nat) : Int) - 1) (-1) ((n : Int) - 0).toNat).stop i H ∧ nx σ H) ∨ ((Itc ((0 : Int) + ((((n : Int) - 0).toNat : Nat) : Int) - 1) (-1) ((n : Int) - 0).toNat).go i H ∧ ∃ N : L2.St → Hp → Prop, (∀ σ' H', N σ' H' → ∃ m', m' < m ∧ W (i + 1) m' σ' H') ∧ ∀ x H', (Itc ((0 : Int) + ((((n : Int) - 0).toNat : Nat) : Int) - 1) (-1) ((n : Int) - 0).toNat).yld i H x H' → B N x σ H') := by
  have e : ((n : Int) - 0).toNat = n := by omega
  rw [e]
  refine ⟨fun i m σ H => m = n - i ∧ i ≤ n ∧ Pv (n - i) σ H, ⟨n, by simp, Nat.zero_le _, h0⟩, ?_⟩
  rintro i m σ H ⟨rfl, hi, p⟩
  by_cases hlt : i < n
  · refine .inr ⟨hlt, Pv (n - (i + 1)), fun σ' H' p' => ⟨n - (i + 1), by omega, rfl, hlt, p'⟩, fun x H' y => ?_⟩
    obtain ⟨e, y⟩ := y
    subst e y
    rw [show (0 : Int) + (n : Int) - 1 + ((i : Nat) : Int) * (-1) = ((n - (i + 1) : Nat) : Int) by omega]
    rw [show n - i = n - (i + 1) + 1 by omega] at p
    exact hs _ σ _ (by omega) p
  · have e : i = n := by omega
    subst e
    rw [Nat.sub_self] at p
    exact .inl ⟨Nat.le_refl _, hd σ H p⟩
section
variable {P : Program} {w : World} {K : PySem.W.Frag} {mg : Str → Option Value} {base : Heap}
theorem at_last {bb : List Int} (h : 1 ≤ bb.length) : atI (bb.map V.int) (-1) = some (.int (hd bb)) := by
  have e : bb[bb.length - 1]? = some (hd bb) := by rw [List.getElem?_eq_getElem (by omega)]; unfold hd; rw [g_some (by omega)]
  have e1 : ixN bb.length (-1) = some (bb.length - 1) := by
    unfold ixN
    rw [if_neg (by decide), if_pos (by omega)]
    congr 1
    omega
  unfold atI
  rw [List.length_map, e1]
  show (bb.map V.int)[bb.length - 1]? = _
  rw [List.getElem?_map, e]
  rfl
theorem ixN_nat {n j : Nat} (h : j < n) : ixN n (j : Int) = some j := by
  unfold ixN
  rw [if_pos (by omega), if_pos (by omega)]
  rfl
theorem at_g {bb : List Int} {j : Nat} (h : j < bb.length) : (bb.map V.int)[j]? = some (.int (g bb j)) := by
  rw [List.getElem?_map, List.getElem?_eq_getElem h, g_some h]; rfl
end
/-- any of a list of ints -/
def rAnyI (K : PySem.W.Frag) : List V → Hp → VK → Prop := fun vs H Q => ∃ (a : Addr) (ns : List Int), vs = [V.ref a] ∧ SqL K H a (ns.map V.int) ∧ Q (.bl (ns.any fun i => i != 0)) H
theorem truth_ints {prog : Program} {w : World} {A : Around} : ∀ {its : List Value} {ns : List Int}, Vals (ns.map V.int) its →
    TruthOf prog w A (fun i v => its.toArray[i]? = some v) (fun i => (ns.getD i 0) != 0) := fun {its ns} r i v s Q E hv hq => by
  have hv' : its[i]? = some v := by simpa using hv
  have hl := r.length
  have hi : i < ns.length := by
    have := (List.getElem?_eq_some_iff.mp hv').1
    rw [List.length_map] at hl
    omega
  obtain ⟨u, eu, ru⟩ := r.get (i := i) (x := .int ns[i]) (by rw [List.getElem?_map, List.getElem?_eq_getElem hi]; rfl)
  rw [hv'] at eu
  injection eu with eu
  subst eu
  obtain ⟨t, rfl⟩ := ru
  have hg : ns.getD i 0 = ns[i] := by rw [List.getD_eq_getElem?_getD, List.getElem?_eq_getElem hi]; rfl
  have hq' : Q ((ns.getD i 0) != 0) s := hq
  rw [hg] at hq'
  exact PyProof.Rows.truthy_int hq'
theorem any_rangeI : ∀ ns : List Int, (List.range ns.length).any (fun i => ns.getD i 0 != 0) = ns.any fun i => i != 0
  | [] => rfl
  | b :: ns => by
    rw [List.length_cons, List.range_succ_eq_map, List.any_cons, List.any_map, List.any_cons, ← any_rangeI ns]
    all_goals rfl
theorem cr_anyI {X : Cx} (hc : X.calm = true) : CallR X (.builtin "any") (rAnyI X.K) := by
  intro pins s σ H vs us Q I r h
  obtain ⟨a, ns, rfl, hs, q⟩ := h
  obtain ⟨its, rv, hl, _⟩ := I.list hs
  rw [Vals.ref1 r]
  refine call_any_walk (iter_any hl.isList fun s₂ e2 st hne => ?_)
  subst e2
  refine ⟨_, _, _, _, _, _, _, rfl, Walks.list (A := X.A.in1) (I.ok.hd hc) _ a hne its.toArray, st, truth_ints rv, fun h' tk hk => ?_⟩
  refine ⟨.bl _, H, I.kept fun b o eo => hk b o (fun hmem => ?_) (Heap.get?_push_of_some _ eo), ?_, q⟩
  · rcases List.mem_cons.mp hmem with e1 | hmem
    · exact absurd (e1 ▸ Heap.lt_size eo) (Nat.lt_irrefl _)
    · cases hmem
  · show Value.bool _ = Value.bool _
    have hl := rv.length
    rw [List.length_map] at hl
    rw [← any_rangeI, List.size_toArray, hl]
theorem Wd.cx {n m : Nat} {i j : Int} (h : Wd n i) (g : Wd m j) (l : n + m ≤ 134217728) : CMulX i j := by
  have a := intBits_le h
  have b := intBits_le g
  unfold CMulX
  omega
theorem bits_wd (i : Int) : Wd (Builtin.Int.intBits i) i := by
  unfold Builtin.Int.intBits Wd
  split
  · rename_i z
    have : i = 0 := by simpa using z
    rw [this]; decide
  · rename_i z
    have z' : i.natAbs ≠ 0 := by simpa using z
    exact (Nat.log2_lt z').mp (by omega)
theorem nm_drop : ∀ (r : List Int) (k : Nat), nm (r.drop k) ≤ nm r
  | [], k => by simp
  | a :: r, 0 => Nat.le_refl _
  | a :: r, k + 1 => by rw [List.drop_succ_cons, nm]; have := nm_drop r k; omega
theorem ev_wdc {b c : Nat} {r : List Int} (h : nm r < 2 ^ c) : Wd (b * r.length + c) (ev (2 ^ b) r) := by
  have h1 := ev_le (2 ^ b) (Nat.pow_pos (by decide)) (n := r.length) (r := r) (by omega)
  rw [← Nat.pow_mul] at h1
  unfold Wd
  have e : ((2 ^ b : Nat) : Int) = (2 : Int) ^ b := by rw [Int.natCast_pow]; rfl
  rw [e] at h1
  refine Nat.lt_of_le_of_lt h1 ?_
  rw [Nat.pow_add, Nat.mul_comm]
  exact Nat.mul_lt_mul_of_le_of_lt (Nat.le_refl _) h (Nat.pow_pos (by decide))
def spPacked : Sp := fun vs H Q _ => ∃ (u : V) (row : List Int) (b c : Nat), vs = [u, .int (b : Int)] ∧ Ro H u row ∧ row.length ≤ 100 ∧ b ≤ 600000 ∧ c ≤ 600000 ∧ nm row < 2 ^ c ∧ ∀ H', Same H H' → Q (.int (ev (XX b) row)) H'
def spUnpacked : Sp := fun vs H Q _ => ∃ (b n : Nat) (v : Int), vs = [.int v, .int (b : Int)] ∧ 2 ≤ b ∧ b ≤ 600000 ∧ n ≤ 200 ∧ v.natAbs ≤ 2 ^ (b * n) ∧ ∀ z r H', Same H H' → Ro H' z r → Dig b r → ev (XX b) r = v → r.length ≤ n + 1 → Q z H'
def spWidth : Sp := fun vs H Q _ => ∃ (u : V) (row : List Int), vs = [u] ∧ Ro H u row ∧ row.length ≤ 100 ∧ ∀ H' (n : Nat), Same H H' → (∀ c ∈ row, Wd n c) → (∀ B, (∀ c ∈ row, Wd B c) → n ≤ B) → Q (.int (n : Int)) H'
/-- the program's quotient: the whole one, if there is one -/
def spQuot : Sp := fun vs H Q _ => ∃ (u v : V) (r bb : List Int) (W1 W2 : Nat), vs = [u, v] ∧ Ro H u r ∧ Ro H v bb ∧ okR r ∧ okR bb ∧ bb ≠ [] ∧ r.length ≤ 100 ∧ bb.length ≤ 100 ∧ WdA W1 r ∧ WdA W2 bb ∧ W1 + (r.length + 1) * (W2 + 1) ≤ 60000000 ∧
  (∀ z q H', Same H H' → okR q → (∀ x, ev x r = ev x q * ev x bb) → Ro H' z q → Q z H') ∧ ((¬ Dv bb r) → ∀ H', Same H H' → Q .non H')
theorem max_spec {n : Nat} : ∀ (l : List Int) (m : Int), (∀ x ∈ l, 0 ≤ x) → 0 ≤ m → m ≤ l.foldl max m ∧ (∀ x ∈ l, x ≤ l.foldl max m) ∧ ∀ B : Int, m ≤ B → (∀ x ∈ l, x ≤ B) → l.foldl max m ≤ B
  | [], m, _, h => ⟨Int.le_refl _, fun x hx => (nomatch hx), fun B hB _ => hB⟩
  | y :: l, m, hl, h => by
    have ih := max_spec (n := n) l (max m y) (fun x hx => hl x (by simp [hx])) (by omega)
    rw [List.foldl_cons]
    refine ⟨by have := ih.1; omega, fun x hx => ?_, fun B hB hb => ih.2.2 B (by have := hb y (by simp); omega) fun x hx => hb x (by simp [hx])⟩
    rcases List.mem_cons.mp hx with z | z
    · subst z; have := ih.1; omega
    · exact ih.2.1 x z
section
variable {P : Program} {w : World} {K : PySem.W.Frag} {mg : Str → Option Value} {base : Heap}
theorem scPacked : FnScope ["row", "bits", "total", "number"] ["row", "bits"] (defScope sPacked) := ⟨rfl, rfl, rfl, by decide +kernel, rfl, by decide +kernel, by decide +kernel⟩
theorem ok_packed (D : Def K mg "packed" sPacked ["row", "bits"]) (nb : Nb mg) : Cal P w K mg base "packed" 1 ["row", "bits"] spPacked := by
  refine D.ok scPacked (fun vs H Q E h => ?_) (fun f cdv A out s H vs Q E hr h => ?_)
  · obtain ⟨u, row, b, c, rfl, _⟩ := h; rfl
  obtain ⟨u, row, b, c, rfl, ⟨pu, rfl, eu⟩, lr, b1, c1, nmr, q⟩ := h
  have eN : ((2 ^ b : Nat) : Int) = (2 : Int) ^ b := by rw [Int.natCast_pow]; rfl
  rw [show XX b = (2 : Int) ^ b from eN] at q
  refine ⟨_, pss_cons (ps_set (i := 2) scPacked.nd rfl (Or.inl rfl) pe_int)
    (pss_cons (ps_for PassesOwn.never rfl (RT.pi_revA (by rfl) nb.rev (pv 0)) (pg_name (i := 3) scPacked.nd rfl (Or.inl rfl))
      (pss_one (ps_set (i := 2) scPacked.nd rfl (Or.inl rfl) (pe_op op_add (pe_op op_shlN (pv 2) (pv 1)) (pv 3)))))
    (pss_one (ps_ret (pv 2)))), ?_⟩
  walk_at "rd"
  refine ⟨.ref pu, rfl, pu, row.map V.int, rfl, .inr ⟨SqT.of eu, for_rev (xs := row.map V.int) (fun i σ H' => ∃ x3, σ = [some (.ref pu), some (.int (b : Int)), some (.int (ev (2 ^ b) (row.drop (row.length - i)))), x3] ∧ H' = H) ?_ ?_ ?_ ?_⟩⟩
  · refine ⟨none, ?_, rfl⟩
    rw [Nat.sub_zero, List.drop_length]
    rfl
  · rintro i σ H1 hi ⟨x3, rfl, rfl⟩
    exact SqT.of eu
  · rintro i x σ H1 hi hx ⟨x3, rfl, rfl⟩
    rw [List.length_map] at hi hx
    have hix : row.length - 1 - i < row.length := by omega
    rw [List.getElem?_map, List.getElem?_eq_getElem hix] at hx
    cases hx
    have w0 := ev_wdc (b := b) (c := c) (r := row.drop (row.length - i)) (Nat.lt_of_le_of_lt (nm_drop _ _) nmr)
    rw [List.length_drop] at w0
    have e := drop_top hi
    refine ⟨_, rfl, _, rfl, _, b, rfl, rfl, ⟨by omega, ?_⟩, _, rfl, _, _, rfl, rfl, some (.int row[row.length - 1 - i]), ?_, rfl⟩
    · have := intBits_le w0
      have h2 := Nat.mul_le_mul_left b (show row.length - (row.length - i) ≤ 100 by omega)
      have h3 : (2 : Int) ^ 27 = 134217728 := by decide +kernel
      omega
    · rw [e, ev]
      rw [Int.mul_comm, Int.add_comm]
      rfl
  · rintro σ H1 ⟨x3, rfl, rfl⟩
    rw [List.length_map, Nat.sub_self, List.drop_zero]
    exact ⟨_, rfl, q _ (Same.refl _)⟩
theorem scWidth : FnScope ["row", "number"] ["row"] (defScope sWidth) := ⟨rfl, rfl, rfl, by decide +kernel, rfl, by decide +kernel, by decide +kernel⟩
theorem ok_width (D : Def K mg "width_of" sWidth ["row"]) (nb : Nb mg) : Cal P w K mg base "width_of" 1 ["row"] spWidth := by
  refine D.ok scWidth (fun vs H Q E h => ?_) (fun f cdv A out s H vs Q E hr h => ?_)
  · obtain ⟨u, row, rfl, _⟩ := h; rfl
  obtain ⟨u, row, rfl, ⟨pu, rfl, eu⟩, lr, q⟩ := h
  refine ⟨_, pss_one (ps_ret (pe_callBK (r := rMaxZ K) (id := "max") (cr_maxZ rfl hr.units) (by rfl) nb.max (by decide +kernel) (pa_cons
          (pe_lc (own := [("number", 1)]) (g := gName 1) (tt := tYes) rfl scWidth.nd (pi_tup (pv 0)) (blkOk_by (N := ["row", "number"]) (sc := defScope sWidth) (by decide +kernel))
            (fun _ _ _ _ _ => pg_name (i := 1) scWidth.nd rfl (Or.inl rfl)) (fun _ _ _ _ _ => pts_nil) (fun _ _ _ _ _ => pe_bits (pv 1))) pa_nil) (pk_cons pe_int pk_nil))), ?_⟩
  walk_at "rd"
  refine lc_relT (S := fun _ v k => v = V.int k) (R := fun _ v k => v = V.int k) (g := fun x => ((Builtin.Int.intBits x : Nat) : Int)) (rs := row) (p := pu) (xs := row.map V.int) (stable_eq _) (stable_eq _) rfl eu (RelA.of_map _) (by omega) (fun x => wipeJ _ _ _) (fun x d H2 hd s2 rx Z hZ => ?_) fun L ys H2 s2 nL eL ry => ?_
  · subst rx
    exact ⟨.int d, rfl, d, rfl, hZ _ _ (Same.refl _) rfl⟩
  · have ey := RelA.eq_map ry
    refine ⟨L, row.map fun x => ((Builtin.Int.intBits x : Nat) : Int), rfl, rfl, SqL.of (by rw [eL, ey]), fun n hn => ?_, ?_⟩
    · obtain ⟨r, _, rfl⟩ := List.mem_map.mp hn
      omega
    · have m := max_spec (n := 0) (row.map fun x => ((Builtin.Int.intBits x : Nat) : Int)) 0 (fun x hx => by obtain ⟨r, _, rfl⟩ := List.mem_map.mp hx; omega) (Int.le_refl _)
      unfold maxN
      generalize hM : (row.map fun x => ((Builtin.Int.intBits x : Nat) : Int)).foldl max 0 = M at m ⊢
      obtain ⟨n, rfl⟩ : ∃ n : Nat, M = (n : Int) := ⟨M.toNat, by have := m.1; omega⟩
      refine q H2 n s2 (fun c hc => (bits_wd c).up ?_) fun B hB => ?_
      · have := m.2.1 _ (List.mem_map.mpr ⟨c, hc, rfl⟩)
        omega
      · have := m.2.2 (B : Int) (by omega) (fun x hx => by
          obtain ⟨r, hr, rfl⟩ := List.mem_map.mp hx
          have := intBits_le (hB r hr)
          omega)
        omega
theorem scUnpacked : FnScope ["value", "bits", "half", "mask", "found", "number"] ["value", "bits"] (defScope sUnpacked) := ⟨rfl, rfl, rfl, by decide +kernel, rfl, by decide +kernel, by decide +kernel⟩
theorem ev_snoc (x : Int) : ∀ (l : List Int) (c : Int), ev x (l ++ [c]) = ev x l + x ^ l.length * c
  | [], c => by show c + x * 0 = 0 + x ^ 0 * c; grind
  | a :: l, c => by
    have ih := ev_snoc x l c
    show a + x * ev x (l ++ [c]) = a + x * ev x l + x ^ (l.length + 1) * c
    rw [ih, Int.pow_succ]; grind
theorem ok_unpacked (D : Def K mg "unpacked" sUnpacked ["value", "bits"]) (nb : Nb mg) : Cal P w K mg base "unpacked" 1 ["value", "bits"] spUnpacked := by
  refine D.ok scUnpacked (fun vs H Q E h => ?_) (fun f cdv A out s H vs Q E hr h => ?_)
  · obtain ⟨b, n, v, rfl, _⟩ := h; rfl
  obtain ⟨b, n, v, rfl, b2, b1, n1, hv, q⟩ := h
  refine ⟨_, pss_cons (ps_set (i := 2) scUnpacked.nd rfl (Or.inl rfl) (pe_op op_oneShl pe_int (pe_op op_sub (pv 1) pe_int)))
    (pss_cons (ps_set (i := 3) scUnpacked.nd rfl (Or.inl rfl) (pe_op op_sub (pe_op op_oneShl pe_int (pv 1)) pe_int))
    (pss_cons (ps_set (i := 4) scUnpacked.nd rfl (Or.inl rfl) (pe_lst pa_nil))
    (pss_cons (ps_while PassesOwn.never (pt_truth (pv 0) (by intro _; rfl))
      (pss_cons (ps_set (i := 5) scUnpacked.nd rfl (Or.inl rfl) (pe_op op_sub (pe_op op_andM (pe_op op_add (pv 0) (pv 2)) (pv 3)) (pv 2)))
    (pss_cons (ps_expr (pe_bm PySem.F.plainAttrs_list PySem.F.slot_list_append PySem.F.type_list_append mt_append (pv 4) (pa_cons (pv 5) pa_nil)))
    (pss_one (ps_set (i := 0) scUnpacked.nd rfl (Or.inl rfl) (pe_op op_shrN (pe_op op_sub (pv 0) (pv 5)) (pv 1)))))))
    (pss_one (ps_ret (pe_callTy (T := "tuple") call_tuple_of (by rfl) nb.tup (by decide +kernel) (pa_cons (pv 4) pa_nil))))))), ?_⟩
  walk_at "rd"
  refine ⟨_, rfl, _, _, rfl, rfl, ?_⟩
  dsimp only
  rw [show (b : Int) - 1 = ((b - 1 : Nat) : Int) by omega]
  refine ⟨b - 1, rfl, rfl, by omega, _, rfl, b, rfl, rfl, by omega, _, _, rfl, rfl, sz (by simp), fun L nL => ?_⟩
  have s0 := same_new (o := .lst []) nL
  have X2 : (2 : Int) ^ b = 2 * 2 ^ (b - 1) := by
    have h1 : b = (b - 1) + 1 := by omega
    have h2 : (2 : Int) ^ b = 2 ^ ((b - 1) + 1) := by rw [← h1]
    rw [h2, Int.pow_succ, Int.mul_comm]
  have eN : ((2 ^ b : Nat) : Int) = (2 : Int) ^ b := by rw [Int.natCast_pow]; rfl
  have hp : (2 : Int) ≤ 2 ^ (b - 1) := by
    have : (2 : Int) ^ (b - 1) = ((2 ^ (b - 1) : Nat) : Int) := by rw [Int.natCast_pow]; rfl
    rw [this]
    have : 2 ^ 1 ≤ 2 ^ (b - 1) := Nat.pow_le_pow_right (by decide) (by omega)
    omega
  generalize hh : (2 : Int) ^ (b - 1) = h at *
  refine ⟨fun m σ H' => ∃ (vv : Int) (l : List Int) (x5 : Option V), m = vv.natAbs ∧ σ = [some (.int vv), some (.int (b : Int)), some (.int h), some (.int (2 ^ b - 1)), some (.ref L), x5] ∧ Same H H' ∧ H' L = some (.lst (l.map V.int)) ∧ v = ev (2 ^ b) l + (2 ^ b) ^ l.length * vv ∧ (vv = 0 → okR l) ∧ (∀ c ∈ l, 2 * c.natAbs ≤ 2 ^ b) ∧ (vv ≠ 0 → l.length ≤ n ∧ vv.natAbs ≤ 2 ^ (b * (n - l.length))) ∧ l.length ≤ n + 1,
    ⟨v.natAbs, v, [], none, rfl, rfl, s0, upd_same, ?_, fun _ => okR_nil, fun c hc => (nomatch hc), fun _ => ⟨Nat.zero_le _, hv⟩, Nat.zero_le _⟩, ?_⟩
  · show v = 0 + (2 ^ b) ^ 0 * v
    rw [Int.pow_zero]; omega
  rintro m σ H1 ⟨vv, l, x5, rfl, rfl, s1, eL, ee, okl, dl, nl, ll⟩
  refine ⟨_, rfl, _, rfl, ?_⟩
  by_cases c : vv = 0
  · subst c
    refine iteF ⟨.ref L, rfl, L, _, rfl, .inl ⟨SqL.of eL, fun p np => ?_⟩⟩
    exact q _ l _ (s1.trans (same_new np)) ⟨p, rfl, upd_same⟩ ⟨okl rfl, dl⟩ (by rw [show XX b = (2 : Int) ^ b from eN, ee]; omega) ll
  rw [show (vv != 0) = true from bne_iff_ne.mpr c]
  obtain ⟨ln, lv⟩ := nl c
  have pb : (0 : Int) < 2 ^ b := by omega
  generalize hnum : (vv + h) % 2 ^ b - h = num
  have m0 := Int.emod_nonneg (vv + h) (show (2 : Int) ^ b ≠ 0 by omega)
  have m1 := Int.emod_lt_of_pos (vv + h) pb
  have nlo : -h ≤ num := by omega
  have nhi : num < h := by omega
  have edv : (vv - num) = 2 ^ b * ((vv + h) / 2 ^ b) := by
    have := Int.mul_ediv_add_emod (vv + h) (2 ^ b)
    omega
  have eq : (vv - num) / 2 ^ b = (vv + h) / 2 ^ b := by rw [edv]; exact Int.mul_ediv_cancel_left _ (by omega)
  generalize hv' : (vv + h) / 2 ^ b = v' at edv eq
  -- how great what is left is
  have small : ∀ M : Nat, 1 ≤ M → vv.natAbs ≤ 2 ^ b * M → v'.natAbs ≤ M := fun M M1 hM => by
    have hM : (vv.natAbs : Int) ≤ 2 ^ b * (M : Int) := by rw [← eN]; exact_mod_cast hM
    have a1 : 2 ^ b * v' ≤ 2 ^ b * (M : Int) + h := by omega
    have a2 : -(2 ^ b * (M : Int) + h) ≤ 2 ^ b * v' := by omega
    have b1 : v' < (M : Int) + 1 := Classical.byContradiction fun z => by
      have : 2 ^ b * ((M : Int) + 1) ≤ 2 ^ b * v' := Int.mul_le_mul_of_nonneg_left (by omega) (by omega)
      rw [Int.mul_add] at this
      omega
    have b2 : -(M : Int) - 1 < v' := Classical.byContradiction fun z => by
      have : 2 ^ b * v' ≤ 2 ^ b * (-(M : Int) - 1) := Int.mul_le_mul_of_nonneg_left (by omega) (by omega)
      rw [Int.mul_sub, Int.mul_neg] at this
      omega
    omega
  have less : v'.natAbs < vv.natAbs := by
    have hb : (4 : Int) ≤ 2 ^ b := by omega
    have a1 : 2 ^ b * v' ≤ (vv.natAbs : Int) + h := by omega
    have a2 : -((vv.natAbs : Int) + h) ≤ 2 ^ b * v' := by omega
    refine Classical.byContradiction fun z => ?_
    have ab : (2 : Int) ^ b * (v'.natAbs : Int) ≤ (vv.natAbs : Int) + h := by
      rcases Int.le_total 0 v' with t | t
      · rw [show (v'.natAbs : Int) = v' by omega]; exact a1
      · rw [show (v'.natAbs : Int) = -v' by omega, Int.mul_neg]; omega
    have : 2 * h * (vv.natAbs : Int) ≤ 2 ^ b * (v'.natAbs : Int) := by rw [X2]; exact Int.mul_le_mul_of_nonneg_left (by omega) (by omega)
    have v1 : (1 : Int) ≤ (vv.natAbs : Int) := by omega
    have : h * (vv.natAbs : Int) ≤ (vv.natAbs : Int) := by
      have h1 : h * 1 ≤ h * (vv.natAbs : Int) := Int.mul_le_mul_of_nonneg_left v1 (by omega)
      have h2 : 2 * h * (vv.natAbs : Int) = h * (vv.natAbs : Int) + h * (vv.natAbs : Int) := by grind
      omega
    have h3 : 2 * (vv.natAbs : Int) ≤ h * (vv.natAbs : Int) := Int.mul_le_mul_of_nonneg_right hp (by omega)
    omega
  refine iteT ⟨fun σ' H' => σ' = [some (.int v'), some (.int (b : Int)), some (.int h), some (.int (2 ^ b - 1)), some (.ref L), some (.int num)] ∧ Same H H' ∧ H' L = some (.lst ((l ++ [num]).map V.int)), ?_, ?_⟩
  · rintro σ' H' ⟨rfl, h2, h3⟩
    refine ⟨v'.natAbs, less, v', l ++ [num], _, rfl, rfl, h2, h3, ?_, fun z => ?_, fun y hy => ?_, fun z => ?_, by simp; omega⟩
    · rw [ee, ev_snoc, List.length_append, Int.pow_add]
      show _ = _ + (2 ^ b) ^ l.length * (2 ^ b) ^ 1 * v'
      have : vv = num + 2 ^ b * v' := by omega
      rw [this]
      grind
    · intro y hy
      rw [List.getLast?_concat] at hy
      cases hy
      have : vv = num + 2 ^ b * v' := by omega
      rw [z] at this
      omega
    · rcases List.mem_append.mp hy with t | t
      · exact dl y t
      · have : y = num := by simpa using t
        subst this
        have : (2 ^ b : Nat) = 2 * h.toNat := by omega
        omega
    · have hl : l.length < n := by
        rcases Nat.lt_or_ge l.length n with t | t
        · exact t
        · exfalso
          rw [show n - l.length = 0 by omega, Nat.mul_zero, Nat.pow_zero] at lv
          omega
      refine ⟨by simp; omega, ?_⟩
      rw [List.length_append]
      show v'.natAbs ≤ 2 ^ (b * (n - (l.length + 1)))
      refine small _ (Nat.pow_pos (by decide)) ?_
      rw [← Nat.pow_add]
      have : b + b * (n - (l.length + 1)) = b * (n - l.length) := by
        rw [show n - l.length = n - (l.length + 1) + 1 by omega, Nat.mul_add]; omega
      rw [this]
      exact lv
  refine ⟨_, rfl, _, rfl, _, _, rfl, rfl, _, rfl, _, b, rfl, rfl, _, rfl, _, _, rfl, rfl, ?_⟩
  dsimp only
  rw [hnum]
  refine ⟨_, rfl, .inl ⟨rfl, _, SqL.of eL⟩, _, rfl, L, _, _, rfl, rfl, eL, lt_line (by rw [List.length_map]; omega), _, rfl, _, rfl, _, _, rfl, rfl, _, rfl, _, b, rfl, rfl, ?_, ?_, ?_⟩
  · rw [eq]; rfl
  · exact fun x o e => by rw [upd_ne (ne_of_none e nL)]; exact s1 _ _ e
  · rw [upd_same, List.map_append]
    rfl
end
end K03

set_option Elab.async false
set_option linter.all false
set_option maxRecDepth 100000
set_option maxHeartbeats 8000000
local macro_rules | `(tactic| walk_at "rd") => `(tactic| dsimp only [Evl.tCut, L2.tBits, L2.tOrT, L2.tAndT, L2.tSeq, L2.tNext, L2.tRet, L2.tRetN, L2.tAsg, L2.gName, L2.tIfS, L2.tDrop, L2.tCons, L2.tNil, L2.tC, L2.tVar, L2.tCB, L2.tAndV, L2.tOrV, L2.tNotV, L2.tB, L2.tTest, L2.tOp, L2.tUn, L2.tNot, L2.tAnd, L2.tOr, L2.tIf, L2.tCall, L2.tTup, L2.tLst, L2.tNotT, L2.tYes, L2.gTup, L2.gCons, L2.gNil, L2.gSub, L2.tBM0, L2.tBM, L2.tWhile, L2.tFor, L2.iRng1, L2.iRng2, L2.tAugS, Tw.iEnumT, L2.tCKw, L2.tAug, L2.ipI, RT.iRevA, L2.iRevR, L2.tPar, L2.tPar3, L2.tSl, L2.tNoPart, L2.tPart, Tw.tRevT, L2.rAdd, L2.rSub, L2.tBits])
namespace K03
open PySem PySem.Spec PyProof.Rows L2 Tw
theorem cv_add_l (a b h : Nat → Int) (k : Nat) : cv (fun i => a i + b i) h k = cv a h k + cv b h k := by
  unfold cv
  rw [← S_add]
  exact S_ext _ fun i _ => by grind
/-- what is left tells whether there is a quotient -/
theorem quot_at {r bb fnd rest q : List Int} {k : Nat} (okb : okR bb) (nb : bb ≠ []) (e : ∀ x, ev x r = ev x fnd * ev x bb + ev x rest) (hq : ∀ x, ev x r = ev x q * ev x bb) (above : ∀ i, k + bb.length - 1 ≤ i → g rest i = 0) :
    (∀ i, k ≤ i → g q i = g fnd i) ∧ ∀ j, k = j + 1 → g rest (j + bb.length - 1) = (g q j - g fnd j) * g bb (bb.length - 1) := by
  have lb := List.length_pos_iff.mpr nb
  generalize hD : trimI (addR q (sclR (-1) fnd)) = D
  have okD : okR D := by rw [← hD]; exact okR_trim _
  have gD : ∀ i, g D i = g q i - g fnd i := fun i => by rw [← hD, g_trim, g_add, g_scl]; omega
  have eD : ∀ x, ev x rest = ev x D * ev x bb := fun x => by
    have a := e x
    have b := hq x
    rw [← hD, ev_trim, ev_add, ev_scl]
    grind
  have gR : ∀ i, g rest i = g (mulR D bb) i := ev_g fun x => by rw [ev_mul]; exact eD x
  have lD : D.length ≤ k := by
    by_cases nD : D = []
    · rw [nD]; exact Nat.zero_le _
    · have ld := List.length_pos_iff.mpr nD
      refine Classical.byContradiction fun c => ?_
      have t := top_mul okD okb nD nb
      rw [← gR, above _ (by omega)] at t
      exact Int.mul_ne_zero (okR_last okD nD) (okR_last okb nb) t.symm
  refine ⟨fun i hi => ?_, fun j hj => ?_⟩
  · have := gD i
    rw [g_none (by omega)] at this
    omega
  · rw [gR, g_mul, show j + bb.length - 1 = j + (bb.length - 1) by omega, cv_top (fun i hi => g_none (by omega)) (fun i hi => g_none (by omega)), gD]
theorem set_ev {l : List Int} {k : Nat} {c : Int} (h : k < l.length) (z : g l k = 0) (x : Int) : ev x (l.set k c) = ev x l + c * ev x (mono k) := by
  rw [← ev_scl, ← ev_add]
  refine ev_ext x fun i => ?_
  rw [g_set h, g_add, g_scl]
  have m : ∀ i, g (mono k) i = if i = k then 1 else 0 := fun i => by
    unfold mono g
    rw [List.getD_eq_getElem?_getD]
    rcases Nat.lt_trichotomy i k with a | a | a
    · rw [List.getElem?_append_left (by rw [List.length_replicate]; exact a), List.getElem?_replicate, if_pos a, if_neg (by omega)]; rfl
    · subst a
      rw [List.getElem?_append_right (by rw [List.length_replicate]; exact Nat.le_refl _), List.length_replicate, Nat.sub_self, if_pos rfl]; rfl
    · rw [List.getElem?_eq_none (by simp; omega), if_neg (by omega)]; rfl
  rw [m]
  split
  · rename_i t; subst t; rw [z]; omega
  · omega
section
variable {P : Program} {w : World} {K : PySem.W.Frag} {mg : Str → Option Value} {base : Heap}
theorem scPQuot : FnScope ["row", "by", "rest", "head", "found", "at", "top", "part", "k", "number"] ["row", "by"] (defScope sPQuot) := ⟨rfl, rfl, rfl, by decide +kernel, rfl, by decide +kernel, by decide +kernel⟩
theorem ok_quot (D : Def K mg "row_quotient" sPQuot ["row", "by"]) (nb : Nb mg) (hN : base.NoSeer) (ht : P.given.tree = none) : Cal P w K mg base "row_quotient" 33 ["row", "by"] spQuot := by
  refine D.ok scPQuot (fun vs H Q E h => ?_) (fun f cdv A out s H vs Q E hr h => ?_)
  · obtain ⟨u, v, r, bb, W1, W2, rfl, _⟩ := h; rfl
  obtain ⟨u, v, r, bb, W1, W2, rfl, ⟨pu, rfl, eu⟩, ⟨pw, rfl, ew⟩, okr, okb, nb', lr, lb, wr, wb, hW, q1, q2⟩ := h
  refine ⟨_, Evl.pss_cut (ps_if (pt_not (pt_truth (pv 0) (fun _ => rfl)))
      (pss_one (ps_ret (pe_tup pa_nil)))
      (pss_nil))
    (Evl.pss_cut (ps_if (pt_cmpR op_lt (pe_callB (id := "len") (r := rLn K) call_len_seq (by rfl) nb.len PySem.boot_len (pa_cons (pv 0) pa_nil)) (pe_callB (id := "len") (r := rLn K) call_len_seq (by rfl) nb.len PySem.boot_len (pa_cons (pv 1) pa_nil)) (nomark _))
      (pss_one (ps_ret pe_non))
      (pss_nil))
    (Evl.pss_cut (ps_set (i := 2) scPQuot.nd rfl (Or.inl rfl) (pe_callTy (T := "list") call_list_of (by rfl) nb.lst (by decide +kernel) (pa_cons (pv 0) pa_nil)))
    (Evl.pss_cut (ps_set (i := 3) scPQuot.nd rfl (Or.inl rfl) (pe_ix (r := rIxT K) ix_tup (pv 1) (pe_un un_neg pe_int) (fun _ _ => rfl)))
    (Evl.pss_cut (ps_set (i := 4) scPQuot.nd rfl (Or.inl rfl) (pe_op op_rep (pe_lst (pa_cons pe_int pa_nil)) (pe_op op_add (pe_op op_sub (pe_callB (id := "len") (r := rLn K) call_len_seq (by rfl) nb.len PySem.boot_len (pa_cons (pv 0) pa_nil)) (pe_callB (id := "len") (r := rLn K) call_len_seq (by rfl) nb.len PySem.boot_len (pa_cons (pv 1) pa_nil))) pe_int)))
    (Evl.pss_cut (ps_for PassesOwn.never rfl (pi_revR (by rfl) nb.rev (prg_1 (by rfl) nb.rng (pe_callB (id := "len") (r := rLn K) call_len_seq (by rfl) nb.len PySem.boot_len (pa_cons (pv 4) pa_nil)))) (pg_name (i := 5) scPQuot.nd rfl (Or.inl rfl))
      (Evl.pss_cut (ps_set (i := 6) scPQuot.nd rfl (Or.inl rfl) (pe_ix (r := rIxL K) ix_list (pv 2) (pe_op op_sub (pe_op op_add (pv 5) (pe_callB (id := "len") (r := rLn K) call_len_seq (by rfl) nb.len PySem.boot_len (pa_cons (pv 1) pa_nil))) pe_int) (fun _ _ => rfl)))
    (Evl.pss_cut (ps_set (i := 7) scPQuot.nd rfl (Or.inl rfl) (pe_op (op_fdivP (se_mk hN ht rfl ⟨rfl, rfl, rfl, rfl⟩) hr (by omega)) (pv 6) (pv 3)))
    (Evl.pss_cut (ps_if (pt_cmpR op_ne (pe_op op_mulX (pv 7) (pv 3)) (pv 6) (nomark _))
      (pss_one (ps_ret pe_non))
      (pss_nil))
    (Evl.pss_cut (ps_asg (pv 7) (pg_sub (pv 4) (pv 5) set_list))
    (pss_one (ps_if (pt_truth (pv 7) (by intro _; rfl))
      (pss_one (ps_for PassesOwn.never rfl (pi_enumT (by rfl) nb.enm (pv 1)) (pg_tup rfl (pgs_cons (pg_name (i := 8) scPQuot.nd rfl (Or.inl rfl)) (pgs_cons (pg_name (i := 9) scPQuot.nd rfl (Or.inl rfl)) pgs_nil)))
      (pss_one (ps_augS (pv 2) (pe_op op_add (pv 5) (pv 8)) get_l (pe_op op_mulX (pv 7) (pv 9)) ip_sub set_list))))
      (pss_nil))))))))
    (pss_one (ps_ret (pe_ifExp (pt_val (pe_callB (id := "any") (r := rAnyI K) (cr_anyI rfl) (by rfl) nb.any (by decide +kernel) (pa_cons (pv 2) pa_nil))) pe_non (pe_callTy (T := "tuple") call_tuple_of (by rfl) nb.tup (by decide +kernel) (pa_cons (pv 4) pa_nil)))))))))), ?_⟩
  walk_at "rd"
  have lbb := List.length_pos_iff.mpr nb'
  have emp : ∀ l : List Int, (l.map V.int).isEmpty = l.isEmpty := fun l => by cases l <;> rfl
  by_cases er : r = []
  · subst er
    refine ⟨fun _ _ => False, ?_, fun _ _ h => h.elim⟩
    exact ⟨_, rfl, _, .inr (.inl ⟨_, SqT.of eu, rfl⟩), iteT ⟨sz (by simp), fun l nl => q1 _ [] _ (same_new nl) okR_nil (fun x => by simp [ev]) ⟨l, rfl, upd_same⟩⟩⟩
  have lr0 := List.length_pos_iff.mpr er
  refine ⟨fun σ H' => σ = [some (.ref pu), some (.ref pw), none, none, none, none, none, none, none, none] ∧ H' = H, ?_, ?_⟩
  · refine ⟨_, rfl, _, .inr (.inl ⟨_, SqT.of eu, rfl⟩), ?_⟩
    rw [emp, show r.isEmpty = false by cases r with | nil => exact absurd rfl er | cons a l => rfl]
    exact iteF ⟨rfl, rfl⟩
  rintro σ1 H1 ⟨rfl, rfl⟩
  refine ⟨fun σ H' => (σ = [some (.ref pu), some (.ref pw), none, none, none, none, none, none, none, none] ∧ H' = H1) ∧ bb.length ≤ r.length, ?_, ?_⟩
  · refine ⟨_, rfl, pu, _, rfl, .inr (SqT.of eu), _, rfl, pw, _, rfl, .inr (SqT.of ew), _, _, rfl, rfl, _, rfl, ite2 (fun c => ?_) (fun c => ⟨⟨rfl, rfl⟩, ?_⟩)⟩
    · have c := of_decide_eq_true c
      rw [List.length_map, List.length_map] at c
      refine q2 (fun d => ?_) _ (Same.refl _)
      obtain ⟨q, _, nq, lq, _⟩ := d.fac okb nb' okr er
      have := List.length_pos_iff.mpr nq
      omega
    · rw [List.length_map, List.length_map] at c
      have : ¬ ((r.length : Int) < (bb.length : Int)) := fun z => c (decide_eq_true z)
      omega
  rintro σ2 H2 ⟨⟨rfl, rfl⟩, lbr⟩
  generalize hn : r.length - bb.length + 1 = n
  refine ⟨fun σ H' => ∃ L, σ = [some (.ref pu), some (.ref pw), some (.ref L), none, none, none, none, none, none, none] ∧ Same H2 H' ∧ H2 L = none ∧ H' L = some (.lst (r.map V.int)), ?_, ?_⟩
  · exact ⟨_, rfl, pu, _, rfl, .inr (SqT.of eu), fun L nL => ⟨L, rfl, same_new nL, nL, upd_same⟩⟩
  rintro σ3 H3 ⟨L, rfl, s3, nL, eL⟩
  refine ⟨fun σ H' => σ = [some (.ref pu), some (.ref pw), some (.ref L), some (.int (hd bb)), none, none, none, none, none, none] ∧ H' = H3, ?_, ?_⟩
  · exact ⟨_, rfl, _, rfl, pw, _, _, _, rfl, rfl, SqT.of (s3 _ _ ew), at_last lbb, rfl, rfl⟩
  rintro σ4 H4 ⟨rfl, rfl⟩
  refine ⟨fun σ H' => ∃ F, σ = [some (.ref pu), some (.ref pw), some (.ref L), some (.int (hd bb)), some (.ref F), none, none, none, none, none] ∧ Same H2 H' ∧ H2 F = none ∧ F ≠ L ∧ H' L = some (.lst (r.map V.int)) ∧ H' F = some (.lst ((List.replicate n (0 : Int)).map V.int)), ?_, ?_⟩
  · refine ⟨sz (by simp), fun L0 n0 => ⟨_, rfl, pu, _, rfl, .inr (SqT.of ((s3.trans (same_new n0)) _ _ eu)), _, rfl, pw, _, rfl, .inr (SqT.of ((s3.trans (same_new n0)) _ _ ew)), _, _, rfl, rfl, _, _, rfl, rfl, L0, _, _, rfl, rfl, upd_same, ?_, ?_, ?_, fun F nF => ?_⟩⟩
    · rw [List.length_map, List.length_map]; omega
    · rw [List.length_map, List.length_map]; omega
    · rw [List.length_map, List.length_map]
      have := sz (n := n) (by omega)
      show 1 * _ ≤ _
      rw [Nat.one_mul]
      omega
    have el0 : (((r.map V.int).length : Int) - ((bb.map V.int).length : Int) + 1).toNat = n := by rw [List.length_map, List.length_map]; omega
    rw [el0, flat_one]
    have s4 := same_new (o := .lst [.int 0]) n0
    have s5 := s4.trans (same_new (o := .lst (List.replicate n (V.int 0))) nF)
    exact ⟨F, rfl, s3.trans s5, s3.free (s4.free nF), (fun z => by rw [z, s4 _ _ eL] at nF; cases nF), s5 _ _ eL, by rw [upd_same, List.map_replicate]⟩
  rintro σ5 H5 ⟨F, rfl, s5, nF, FL, eL5, eF5⟩
  have hdn : hd bb ≠ 0 := okR_last okb nb'
  -- how great the numbers are
  let Sz : Nat → Nat := fun k => W1 + (n - k) * (W2 + 1)
  have SzB : ∀ k, Sz k + W2 + 1 ≤ 60000000 := fun k => by
    have : (n - k) * (W2 + 1) ≤ r.length * (W2 + 1) := Nat.mul_le_mul_right _ (by omega)
    show W1 + (n - k) * (W2 + 1) + W2 + 1 ≤ _
    rw [Nat.add_mul] at hW
    omega
  refine ⟨fun σ H' => ∃ (x5 x6 x7 x8 x9 : Option V) (rest fnd : List Int), σ = [some (.ref pu), some (.ref pw), some (.ref L), some (.int (hd bb)), some (.ref F), x5, x6, x7, x8, x9] ∧ Same H2 H' ∧ H' L = some (.lst (rest.map V.int)) ∧ (∀ i, bb.length - 1 ≤ i → g rest i = 0) ∧ H' F = some (.lst (fnd.map V.int)) ∧ fnd.length = n ∧ ∀ x, ev x r = ev x fnd * ev x bb + ev x rest, ?_, ?_⟩
  · refine ⟨_, rfl, F, _, rfl, .inl (SqL.of eF5), _, rfl, by omega, by omega, by rw [List.length_map, List.length_replicate]; omega, by rw [List.length_map, List.length_replicate]; omega, ?_⟩
    rw [List.length_map, List.length_replicate]
    refine for_down (n := n) (fun k σ H' => ∃ (x5 x6 x7 x8 x9 : Option V) (rest fnd : List Int), σ = [some (.ref pu), some (.ref pw), some (.ref L), some (.int (hd bb)), some (.ref F), x5, x6, x7, x8, x9] ∧ Same H2 H' ∧ H' L = some (.lst (rest.map V.int)) ∧ rest.length = r.length ∧ (∀ i, k + bb.length - 1 ≤ i → g rest i = 0) ∧ (∀ i, Wd (Sz k) (g rest i)) ∧ H' F = some (.lst (fnd.map V.int)) ∧ fnd.length = n ∧ (∀ i, i < k → g fnd i = 0) ∧ ∀ x, ev x r = ev x fnd * ev x bb + ev x rest) ?_ ?_ ?_
    · refine ⟨_, _, _, _, _, r, _, rfl, s5, eL5, rfl, fun i hi => g_none (by omega), fun i => (wr.g i).up (Nat.le_add_right _ _), eF5, by rw [List.length_replicate], fun i _ => ?_, fun x => ?_⟩
      · unfold g; rw [List.getD_eq_getElem?_getD, List.getElem?_replicate]; split <;> rfl
      · have : ev x (List.replicate n (0 : Int)) = 0 := by
          have : ev x (List.replicate n (0 : Int)) = ev x [] := ev_ext x fun k => by unfold g; rw [List.getD_eq_getElem?_getD, List.getElem?_replicate]; split <;> rfl
          rw [this]; rfl
        rw [this]; omega
    · rintro k σ H6 hk ⟨x5, x6, x7, x8, x9, rest, fnd, rfl, s6, eL, lrest, grest, wrest, eF, lf, zf, ee⟩
      generalize htop : g rest (k + bb.length - 1) = top
      have wtop : Wd (Sz (k + 1)) top := by rw [← htop]; exact wrest _
      refine ⟨fun σ H' => σ = [some (.ref pu), some (.ref pw), some (.ref L), some (.int (hd bb)), some (.ref F), some (.int (k : Int)), some (.int top), x7, x8, x9] ∧ H' = H6, ?_, ?_⟩
      · refine ⟨_, rfl, _, rfl, _, rfl, pw, _, rfl, .inr (SqT.of (s6 _ _ ew)), _, _, rfl, rfl, _, _, rfl, rfl, L, _, _, _, rfl, rfl, SqL.of eL, ?_, rfl, rfl⟩
        rw [List.length_map, show (k : Int) + (bb.length : Int) - 1 = ((k + bb.length - 1 : Nat) : Int) by omega]
        exact atI_nat (by rw [at_g (by omega), htop])
      rintro σ7 H7 ⟨rfl, rfl⟩
      generalize hpt : top.fdiv (hd bb) = pt
      have wpt : Wd (Sz (k + 1)) pt := by rw [← hpt]; exact wtop.fdiv hdn
      refine ⟨fun σ H' => σ = [some (.ref pu), some (.ref pw), some (.ref L), some (.int (hd bb)), some (.ref F), some (.int (k : Int)), some (.int top), some (.int pt), x8, x9] ∧ H' = H7, ?_, ?_⟩
      · refine ⟨_, rfl, _, rfl, _, _, rfl, rfl, hdn, ?_, rfl⟩
        show [_, _, _, _, _, _, _, some (V.int (top.fdiv (hd bb))), _, _] = _
        rw [hpt]
      rintro σ8 H8 ⟨rfl, rfl⟩
      refine ⟨fun σ H' => (σ = [some (.ref pu), some (.ref pw), some (.ref L), some (.int (hd bb)), some (.ref F), some (.int (k : Int)), some (.int top), some (.int pt), x8, x9] ∧ H' = H8) ∧ pt * hd bb = top, ?_, ?_⟩
      · refine ⟨_, rfl, _, rfl, _, _, rfl, rfl, wpt.cx wb.hd (by have := SzB (k + 1); omega), _, rfl, rfl, _, rfl, ?_⟩
        by_cases c : pt * hd bb = top
        · rw [show (!decide ((fun i j => V.int (i * j)) pt (hd bb) = V.int top)) = false by rw [decide_eq_true (show V.int (pt * hd bb) = V.int top by rw [c])]; rfl]
          exact iteF ⟨⟨rfl, rfl⟩, c⟩
        · rw [show (!decide ((fun i j => V.int (i * j)) pt (hd bb) = V.int top)) = true by rw [decide_eq_false (fun z => c (by injection z))]; rfl]
          refine iteT (q2 (fun d => ?_) _ s6)
          obtain ⟨q, hq⟩ := d
          have t := (quot_at okb nb' ee hq (k := k + 1) grest).2 k rfl
          rw [htop, zf k (by omega)] at t
          have t : top = g q k * hd bb := by rw [t]; unfold hd; grind
          apply c
          rw [← hpt, t, Int.mul_fdiv_cancel _ hdn]
      rintro σ9 H9 ⟨⟨rfl, rfl⟩, hpr⟩
      refine ⟨fun σ H' => σ = [some (.ref pu), some (.ref pw), some (.ref L), some (.int (hd bb)), some (.ref F), some (.int (k : Int)), some (.int top), some (.int pt), x8, x9] ∧ Same H2 H' ∧ H' L = some (.lst (rest.map V.int)) ∧ H' F = some (.lst ((fnd.set k pt).map V.int)), ?_, ?_⟩
      · refine ⟨_, rfl, _, rfl, _, rfl, F, _, _, k, rfl, rfl, eF, ixN_nat (by rw [List.length_map]; omega), rfl, fun b o e => ?_, ?_, ?_⟩
        · rw [upd_ne (ne_of_none e nF)]; exact s6 _ _ e
        · rw [upd_ne FL.symm]; exact eL
        · rw [upd_same, List.map_set]
      rintro σ10 H10 ⟨rfl, s10, eL10, eF10⟩
      have zf2 : ∀ i, i < k → g (fnd.set k pt) i = 0 := fun i hi => by rw [g_set (by omega), if_neg (by omega)]; exact zf i (by omega)
      have sev : ∀ x, ev x (fnd.set k pt) = ev x fnd + pt * x ^ k := fun x => by rw [set_ev (by omega) (zf k (by omega)), ev_mono]
      have SzS : Sz k = Sz (k + 1) + W2 + 1 := by
        show W1 + (n - k) * (W2 + 1) = W1 + (n - (k + 1)) * (W2 + 1) + W2 + 1
        rw [show n - k = n - (k + 1) + 1 by omega, Nat.add_mul]
        omega
      refine ⟨_, rfl, _, rfl, ?_⟩
      by_cases c : pt = 0
      · subst c
        have t0 : top = 0 := by rw [← hpr, Int.zero_mul]
        refine iteF ⟨_, _, _, _, _, rest, fnd.set k 0, rfl, s10, eL10, lrest, fun i hi => ?_, fun i => (wrest i).up (by omega), eF10, by rw [List.length_set]; exact lf, zf2, fun x => ?_⟩
        · rcases Nat.lt_or_ge i (k + 1 + bb.length - 1) with d | d
          · rw [show i = k + bb.length - 1 by omega, htop, t0]
          · exact grest i d
        · rw [sev x, ee x]; grind
      rw [show (pt != 0) = true from bne_iff_ne.mpr c]
      refine iteT ⟨_, rfl, pw, bb.map V.int, rfl, SqT.of (s10 _ _ ew), for_enumT (xs := bb.map V.int) (fun j σ H' => ∃ (x8 x9 : Option V) (rest' : List Int), σ = [some (.ref pu), some (.ref pw), some (.ref L), some (.int (hd bb)), some (.ref F), some (.int (k : Int)), some (.int top), some (.int pt), x8, x9] ∧ Same H2 H' ∧ H' L = some (.lst (rest'.map V.int)) ∧ rest'.length = r.length ∧ (∀ i, g rest' i = g rest i - (if k ≤ i ∧ i - k < j then pt * g bb (i - k) else 0)) ∧ H' F = some (.lst ((fnd.set k pt).map V.int))) ?_ ?_ ?_ ?_⟩
      · exact ⟨x8, x9, rest, rfl, s10, eL10, lrest, fun i => by rw [if_neg (by omega)]; omega, eF10⟩
      · rintro j σ H' hj ⟨x8, x9, rest, rfl, s11, _⟩
        exact SqT.of (s11 _ _ ew)
      · rintro j x p σ H11 hx ⟨x8, x9, rest', rfl, s11, eL11, lr11, gr11, eF11⟩ np
        have hj : j < bb.length := by have := (List.getElem?_eq_some_iff.mp hx).1; rwa [List.length_map] at this
        rw [at_g hj] at hx
        injection hx with hx
        subst hx
        have s12 := s11.trans (same_new (o := .tup [.int (j : Nat), .int (g bb j)]) np)
        have nL2 : p ≠ L := fun z => by rw [z, eL11] at np; cases np
        have nF2 : p ≠ F := fun z => by rw [z, eF11] at np; cases np
        have eL12 : upd H11 p (.tup [.int (j : Nat), .int (g bb j)]) L = some (.lst (rest'.map V.int)) := by rw [upd_ne nL2.symm]; exact eL11
        have eF12 : upd H11 p (.tup [.int (j : Nat), .int (g bb j)]) F = some (.lst ((fnd.set k pt).map V.int)) := by rw [upd_ne nF2.symm]; exact eF11
        refine ⟨p, _, rfl, SqT.of upd_same, rfl, _, _, rfl, _, _, rfl, rfl, ?_⟩
        generalize upd H11 p (.tup [.int (j : Nat), .int (g bb j)]) = H12 at s12 eL12 eF12 ⊢
        refine ⟨_, rfl, _, rfl, _, rfl, _, _, rfl, rfl, L, _, k + j, _, rfl, ?_, SqL.of eL12, at_g (by omega), _, rfl, _, rfl, _, _, rfl, rfl, wpt.cx (wb.g j) (by have := SzB (k + 1); omega), _, _, rfl, rfl, L, _, _, k + j, rfl, rfl, eL12, ?_, _, _, rest'.set (k + j) (g rest' (k + j) - pt * g bb j), rfl, fun b o e => ?_, ?_, by rw [List.length_set]; exact lr11, fun i => ?_, ?_⟩
        · show V.int ((k : Int) + (j : Int)) = _; rw [show (k : Int) + (j : Int) = ((k + j : Nat) : Int) by omega]
        · rw [show (k : Int) + (j : Int) = ((k + j : Nat) : Int) by omega, List.length_map]
          exact ixN_nat (by omega)
        · rw [upd_ne (ne_of_none e nL)]; exact s12 _ _ e
        · rw [upd_same, List.map_set]
        · rw [g_set (by omega), gr11, gr11]
          by_cases d : i = k + j
          · subst d
            rw [if_pos rfl, if_neg (by omega), if_pos (by omega), show k + j - k = j by omega]
            omega
          · rw [if_neg d]
            by_cases e : k ≤ i ∧ i - k < j
            · rw [if_pos e, if_pos (by omega)]
            · rw [if_neg e, if_neg (by omega)]
        · rw [upd_ne FL]; exact eF12
      · rintro σ H11 ⟨x8, x9, rest', rfl, s11, eL11, lr11, gr11, eF11⟩
        rw [List.length_map] at gr11
        have gr : ∀ i, g rest' i = g rest i - (if k ≤ i then pt * g bb (i - k) else 0) := fun i => by
          rw [gr11]
          by_cases d : k ≤ i
          · rw [if_pos d]
            by_cases e : i - k < bb.length
            · rw [if_pos ⟨d, e⟩]
            · rw [if_neg (fun z => e z.2), g_none (r := bb) (by omega)]; simp
          · rw [if_neg d, if_neg (fun z => d z.1)]
        refine ⟨_, _, _, x8, x9, rest', fnd.set k pt, rfl, s11, eL11, lr11, fun i hi => ?_, fun i => ?_, eF11, by rw [List.length_set]; exact lf, zf2, fun x => ?_⟩
        · rw [gr]
          rcases Nat.lt_or_ge i (k + 1 + bb.length - 1) with d | d
          · rw [show i = k + bb.length - 1 by omega, htop, if_pos (by omega), show k + bb.length - 1 - k = bb.length - 1 by omega, ← hpr]
            unfold hd; omega
          · rw [grest i d, g_none (r := bb) (show bb.length ≤ i - k by omega)]; simp
        · rw [gr, SzS]
          refine ((wrest i).up (by omega)).sub (n := Sz (k + 1) + W2) ?_
          split
          · exact wpt.mul (wb.g _)
          · exact Wd.zero _
        · have e1 : ev x rest' = ev x rest - pt * (x ^ k * ev x bb) := by
            have : ev x rest' = ev x (addR rest (sclR (-pt) (mulR (mono k) bb))) := ev_ext x fun i => by
              rw [gr, g_add, g_scl]
              split
              · rename_i d
                have := g_mono bb k (i - k)
                rw [show k + (i - k) = i by omega] at this
                rw [this]; grind
              · rename_i d
                have : g (mulR (mono k) bb) i = 0 := by
                  rw [g_mul]
                  unfold cv
                  rw [S_ext (h := fun _ => 0) _ fun a ha => ?_, S_zero]
                  have : g (mono k) a = 0 := by
                    unfold mono g
                    rw [List.getD_eq_getElem?_getD, List.getElem?_append_left (by rw [List.length_replicate]; omega), List.getElem?_replicate, if_pos (by omega)]; rfl
                  rw [this, Int.zero_mul]
                rw [this]; omega
            rw [this, ev_add, ev_scl, ev_mul, ev_mono]; grind
          rw [e1, sev x, ee x]; grind
    · rintro σ H6 ⟨x5, x6, x7, x8, x9, rest, fnd, rfl, s6, eL, lrest, grest, wrest, eF, lf, zf, ee⟩
      exact ⟨x5, x6, x7, x8, x9, rest, fnd, rfl, s6, eL, fun i hi => grest i (by omega), eF, lf, ee⟩
  rintro σ6 H6 ⟨x5, x6, x7, x8, x9, rest, fnd, rfl, s6, eL, grest, eF, lf, ee⟩
  refine ⟨_, rfl, L, rest, rfl, SqL.of eL, _, rfl, ?_⟩
  have anyI : (rest.any fun i => i != 0) = false ↔ ∀ i, g rest i = 0 := by
    rw [List.any_eq_false]
    constructor
    · intro h i
      rcases Nat.lt_or_ge i rest.length with c | c
      · have := h _ (g_memx c)
        simpa using this
      · exact g_none c
    · intro h x hx
      obtain ⟨k, hk, e⟩ := List.getElem_of_mem hx
      have := h k
      rw [g_some hk, e] at this
      simp [this]
  cases ha : (rest.any fun i => i != 0) with
  | false =>
    have z := anyI.mp ha
    have e2 : ∀ x, ev x r = ev x fnd * ev x bb := fun x => by
      rw [ee x, show ev x rest = ev x [] from ev_ext x fun k => z k, ev_nil, Int.add_zero]
    have okf : okR fnd := ok_of_top (by
      have t := okR_last okr er
      have : g r (r.length - 1) = g (mulR fnd bb) (r.length - 1) := ev_g (fun x => by rw [ev_mul]; exact e2 x) _
      rw [this, g_mul, show r.length - 1 = fnd.length - 1 + (bb.length - 1) by omega, cv_top (fun i hi => g_none (by omega)) (fun i hi => g_none (by omega))] at t
      exact fun z => t (by rw [z, Int.zero_mul]))
    exact iteF ⟨_, rfl, F, _, rfl, .inl ⟨SqL.of eF, fun l nl => q1 _ fnd _ (s6.trans (same_new nl)) okf e2 ⟨l, rfl, upd_same⟩⟩⟩
  | true =>
    refine iteT (q2 (fun d => ?_) _ s6)
    obtain ⟨q, hq⟩ := d
    have t := (quot_at okb nb' ee hq (k := 0) (fun i hi => grest i (by omega))).1
    have : (rest.any fun i => i != 0) = false := anyI.mpr fun i => by
      have e1 : ∀ x, ev x rest = ev x [] := fun x => by
        have a := ee x
        rw [hq x, ev_ext x (r := q) (s := fnd) fun k => t k (Nat.zero_le _)] at a
        rw [ev_nil]; omega
      have := ev_g e1 i
      rw [this]; rfl
    rw [this] at ha
    cases ha
end
end K03

set_option Elab.async false
set_option linter.all false
set_option maxRecDepth 100000
set_option maxHeartbeats 8000000
local macro_rules | `(tactic| walk_at "rd") => `(tactic| dsimp only [Evl.tCut, L2.tBits, L2.tOrT, L2.tAndT, L2.tSeq, L2.tNext, L2.tRet, L2.tRetN, L2.tAsg, L2.gName, L2.tIfS, L2.tDrop, L2.tCons, L2.tNil, L2.tC, L2.tVar, L2.tCB, L2.tAndV, L2.tOrV, L2.tNotV, L2.tB, L2.tTest, L2.tOp, L2.tUn, L2.tNot, L2.tAnd, L2.tOr, L2.tIf, L2.tCall, L2.tTup, L2.tLst, L2.tNotT, L2.tYes, L2.gTup, L2.gCons, L2.gNil, L2.gSub, L2.tBM0, L2.tBM, L2.tWhile, L2.tFor, L2.iRng1, L2.iRng2, L2.tAugS, Tw.iEnumT, L2.tCKw, L2.tAug, L2.ipI, RT.iRevA, L2.iRevR, L2.tPar, L2.tPar3, L2.tSl, L2.tNoPart, L2.tPart, Tw.tRevT, L2.rAdd, L2.rSub, L2.tBits])
namespace K03
open PySem PySem.Spec PyProof.Rows L2 Tw
def Cm (F R G : List Int) : Prop := (F = [] ∧ R = [] ∧ G = []) ∨ Gc F R G
theorem Cm.one {F R G G' : List Int} (h : Cm F R G) (k : Cm F R G') : G = G' := by
  rcases h with ⟨a, b, c⟩ | h
  · rcases k with ⟨_, _, c'⟩ | k
    · rw [c, c']
    · exfalso
      obtain ⟨c0, U, V, n0, e⟩ := k.comb
      have : sclR c0 G' = [] ∨ True := .inr trivial
      exact k.ne (nil_of k.ok fun x => by
        have := e x
        rw [a, b, ev_nil, Int.mul_zero, Int.mul_zero] at this
        exact (Int.mul_eq_zero.mp (by omega)).resolve_left n0)
  · rcases k with ⟨a, b, _⟩ | k
    · exfalso
      obtain ⟨c0, U, V, n0, e⟩ := h.comb
      exact h.ne (nil_of h.ok fun x => by
        have := e x
        rw [a, b, ev_nil, Int.mul_zero, Int.mul_zero] at this
        exact (Int.mul_eq_zero.mp (by omega)).resolve_left n0)
    · exact h.one k
theorem nm_prime {r : List Int} (ok : okR r) (ne : r ≠ []) : nm (primeI r) ≤ nm r := by
  obtain ⟨d, d0, _, _, e⟩ := prime_rel ok ne
  have : r = sclR d (primeI r) := row_eq (by unfold sclR; rw [List.length_map, len_primeI]) fun k => by rw [g_scl]; exact e k
  have h : nm r = d.natAbs * nm (primeI r) := by conv => lhs; rw [this]; rw [nm_scl]
  rw [h]
  exact Nat.le_mul_of_pos_left _ (by omega)
theorem prime_scale {r : List Int} (ok : okR r) (ne : r ≠ []) : ∃ d : Int, d ≠ 0 ∧ ∀ x, 1 * ev x r = d * ev x (primeI r) := by
  obtain ⟨d, d0, _, e⟩ := prime_ev ok ne
  exact ⟨d, d0, fun x => by rw [e x]; omega⟩
theorem gc_of_prime {F R G : List Int} (okF : okR F) (okR_ : okR R) (nF : F ≠ []) (nR : R ≠ []) (h : Gc (primeI F) (primeI R) G) : Gc F R G := by
  obtain ⟨d, d0, e⟩ := prime_scale okF nF
  obtain ⟨c, c0, e'⟩ := prime_scale okR_ nR
  exact h.scale (by decide) d0 (by decide) c0 e e'
def spPCommon : Sp := fun vs H Q _ => ∃ (u v : V) (F R : List Int) (W : Nat), vs = [u, v] ∧ Ro H u F ∧ Ro H v R ∧ okR F ∧ okR R ∧ nm F < 2 ^ W ∧ nm R < 2 ^ W ∧ W ≤ 7000 ∧ F.length ≤ 16 ∧ R.length ≤ 16 ∧
  ∀ z G H', Same H H' → Ro H' z G → Cm F R G → Q z H'
def spPPlain : Sp := fun vs H Q _ => ∃ (u : V) (F : List Int) (W : Nat), vs = [u] ∧ Ro H u F ∧ okR F ∧ F ≠ [] ∧ nm F < 2 ^ W ∧ W ≤ 6900 ∧ F.length ≤ 16 ∧ ∀ z t H', Same H H' → Ro H' z t → Pl F t → Q z H'
theorem nm_wd {W : Nat} {r : List Int} (h : nm r < 2 ^ W) : WdA W r := fun c hc => Nat.lt_of_le_of_lt (nm_mem hc) h
theorem nm_len {b : Nat} : ∀ {r : List Int}, (∀ c ∈ r, c.natAbs ≤ b) → nm r ≤ r.length * b
  | [], _ => by simp [nm]
  | a :: r, h => by
    have := nm_len (b := b) (r := r) fun c hc => h c (by simp [hc])
    have := h a (by simp)
    rw [nm, List.length_cons, Nat.add_mul]; omega
section
variable {P : Program} {w : World} {K : PySem.W.Frag} {mg : Str → Option Value} {base : Heap}
theorem scPCommon : FnScope ["row", "other", "bits", "found"] ["row", "other"] (defScope sPCommon) := ⟨rfl, rfl, rfl, by decide +kernel, rfl, by decide +kernel, by decide +kernel⟩
theorem ok_pcommon (D : Def K mg "row_common" sPCommon ["row", "other"]) (nb : Nb mg) (cp : Cal P w K mg base "row_prime" 34 ["row"] spPrime) (cw : Cal P w K mg base "width_of" 1 ["row"] spWidth)
    (ck : Cal P w K mg base "packed" 1 ["row", "bits"] spPacked) (cu : Cal P w K mg base "unpacked" 1 ["value", "bits"] spUnpacked) (cq : Cal P w K mg base "row_quotient" 33 ["row", "by"] spQuot) : Cal P w K mg base "row_common" 35 ["row", "other"] spPCommon := by
  refine D.ok scPCommon (fun vs H Q E h => ?_) (fun f cdv A out s H vs Q E hr h => ?_)
  · obtain ⟨u, v, F, R, W, rfl, _⟩ := h; rfl
  obtain ⟨u, v, F, R, W, rfl, ⟨pu, rfl, eu⟩, ⟨pw, rfl, ew⟩, okF, okR_, wF, wR, W1, lF, lR, q⟩ := h
  refine ⟨_, Evl.pss_cut (ps_if (PW.pt (pw_or (pt_not (pt_truth (pv 0) (fun _ => rfl))) (pw_or1 (pt_not (pt_truth (pv 1) (fun _ => rfl))))))
      (pss_one (ps_ret (pe_cal cp hr (by omega) (by rfl) (pa_cons (pe_orT (pv 0) (pe_one (pv 1))) pa_nil))))
      (pss_nil))
    (Evl.pss_cut (ps_if (PW.pt (pw_or (pt_cmpR op_eq (pe_callB (id := "len") (r := rLn K) call_len_seq (by rfl) nb.len PySem.boot_len (pa_cons (pv 0) pa_nil)) pe_int (nomark _)) (pw_or1 (pt_cmpR op_eq (pe_callB (id := "len") (r := rLn K) call_len_seq (by rfl) nb.len PySem.boot_len (pa_cons (pv 1) pa_nil)) pe_int (nomark _)))))
      (pss_one (ps_ret (pe_tup (pa_cons pe_int pa_nil))))
      (pss_nil))
    (Evl.pss_cut (ps_par (i := 0) (j := 1) rfl scPCommon.nd rfl rfl (by decide) rfl rfl (pa_cons (pe_cal cp hr (by omega) (by rfl) (pa_cons (pv 0) pa_nil)) (pa_cons (pe_cal cp hr (by omega) (by rfl) (pa_cons (pv 1) pa_nil)) pa_nil)) rfl)
    (Evl.pss_cut (ps_set (i := 2) scPCommon.nd rfl (Or.inl rfl) (pe_op op_add (pe_callB (id := "min") (call_min2 rfl) (by rfl) nb.min (by decide +kernel) (pa_cons (pe_cal cw hr (by omega) (by rfl) (pa_cons (pv 0) pa_nil)) (pa_cons (pe_cal cw hr (by omega) (by rfl) (pa_cons (pv 1) pa_nil)) pa_nil))) pe_int))
    (pss_one (ps_while PassesOwn.never (pt_val pe_bl)
      (Evl.pss_cut (ps_set (i := 3) scPCommon.nd rfl (Or.inl rfl) (pe_cal cp hr (by omega) (by rfl) (pa_cons (pe_cal cu hr (by omega) (by rfl) (pa_cons (pe_callBfun cr_gcd (by rfl) nb.gc (pa_cons (pe_cal ck hr (by omega) (by rfl) (pa_cons (pv 0) (pa_cons (pv 2) pa_nil))) (pa_cons (pe_cal ck hr (by omega) (by rfl) (pa_cons (pv 1) (pa_cons (pv 2) pa_nil))) pa_nil))) (pa_cons (pv 2) pa_nil))) pa_nil)))
    (Evl.pss_cut (ps_if (pt_cmpR op_eq (pe_callB (id := "len") (r := rLn K) call_len_seq (by rfl) nb.len PySem.boot_len (pa_cons (pv 3) pa_nil)) pe_int (nomark _))
      (pss_one (ps_ret (pe_tup (pa_cons pe_int pa_nil))))
      (pss_nil))
    (Evl.pss_cut (ps_if (PW.pt (pw_and (pt_cmpR op_notN (pe_cal cq hr (by omega) (by rfl) (pa_cons (pv 0) (pa_cons (pv 3) pa_nil))) pe_non (nomark _)) (pw_and1 (pt_cmpR op_notN (pe_cal cq hr (by omega) (by rfl) (pa_cons (pv 1) (pa_cons (pv 3) pa_nil))) pe_non (nomark _)))))
      (pss_one (ps_ret (pv 3)))
      (pss_nil))
    (pss_one (ps_aug (i := 2) scPCommon.nd rfl (Or.inl rfl) pe_int ip_mul)))))))))), ?_⟩
  walk_at "rd"
  have emp : ∀ l : List Int, (l.map V.int).isEmpty = l.isEmpty := fun l => by cases l <;> rfl
  have emt : ∀ l : List Int, l ≠ [] → l.isEmpty = false := fun l h => by cases l with | nil => exact absurd rfl h | cons a l => rfl
  have e1s : ∀ {H' : Hp} {l : List Int} {p : Addr}, H' p = some (.tup (l.map V.int)) → Ro H' (.ref p) l := fun e => ⟨_, rfl, e⟩
  refine ⟨fun σ H' => (σ = [some (.ref pu), some (.ref pw), none, none] ∧ H' = H) ∧ F ≠ [] ∧ R ≠ [], ?_, ?_⟩
  · refine ⟨.ref pu, rfl, _, .inr (.inl ⟨_, SqT.of eu, rfl⟩), ?_⟩
    rw [emp]
    by_cases nF : F = []
    · subst nF
      refine iteT (iteT ⟨.ref pu, rfl, _, .inr (.inl ⟨_, SqT.of eu, rfl⟩), iteF ⟨.ref pw, rfl, .ref pw, R, rfl, e1s ew, okR_, by omega, fun z H1 s1 rz => ?_⟩⟩)
      refine q z _ H1 s1 rz ?_
      by_cases nR : R = []
      · subst nR; exact .inl ⟨rfl, rfl, rfl⟩
      · exact .inr (gc_nil okR_ nR).symm
    · rw [emt F nF]
      refine iteF ⟨.ref pw, rfl, _, .inr (.inl ⟨_, SqT.of ew, rfl⟩), ?_⟩
      rw [emp]
      by_cases nR : R = []
      · subst nR
        refine iteT ⟨.ref pu, rfl, _, .inr (.inl ⟨_, SqT.of eu, rfl⟩), ?_⟩
        rw [emp, emt F nF]
        exact iteT ⟨.ref pu, F, rfl, e1s eu, okF, by omega, fun z H1 s1 rz => q z _ H1 s1 rz (.inr (gc_nil okF nF))⟩
      · rw [emt R nR]
        exact iteF ⟨⟨rfl, rfl⟩, nF, nR⟩
  rintro σ1 H1 ⟨⟨rfl, rfl⟩, nF, nR⟩
  have lF0 := List.length_pos_iff.mpr nF
  have lR0 := List.length_pos_iff.mpr nR
  obtain ⟨G, hG⟩ := gc_ex okF okR_ nF
  have ret1 : G = [1] → ∀ {H' : Hp}, Same H1 H' → ([V.int 1] : List V).length ≤ sizeLine ∧ ∀ p, H' p = none → Q (.ref p) (upd H' p (.tup [V.int 1])) := fun z H' s' =>
    ⟨sz (by simp), fun p np => q _ [1] _ (s'.trans (same_new np)) ⟨p, rfl, upd_same⟩ (.inr (z ▸ hG))⟩
  have one_len : ∀ {A B G : List Int}, Gc A B G → B.length = 1 → okR B → G = [1] := fun h l ok => by
    obtain ⟨a, rfl⟩ := List.length_eq_one_iff.mp l
    exact gc_const (by have := okR_last ok (by simp); exact this) h
  refine ⟨fun σ H' => (σ = [some (.ref pu), some (.ref pw), none, none] ∧ H' = H1), ?_, ?_⟩
  · refine ⟨.ref pu, rfl, pu, _, rfl, .inr (SqT.of eu), rfl, _, rfl, ?_⟩
    rw [dec_int, List.length_map]
    by_cases c : F.length = 1
    · rw [show (((F.length : Nat) : Int) == 1) = true by rw [c]; rfl]
      exact iteT (iteT (ret1 (one_len hG.symm c okF) (Same.refl _)))
    · rw [show (((F.length : Nat) : Int) == 1) = false from beq_eq_false_iff_ne.mpr (by omega)]
      refine iteF ⟨.ref pw, rfl, pw, _, rfl, .inr (SqT.of ew), rfl, _, rfl, ?_⟩
      rw [dec_int, List.length_map]
      by_cases c2 : R.length = 1
      · rw [show (((R.length : Nat) : Int) == 1) = true by rw [c2]; rfl]
        exact iteT (ret1 (one_len hG c2 okR_) (Same.refl _))
      · rw [show (((R.length : Nat) : Int) == 1) = false from beq_eq_false_iff_ne.mpr (by omega)]
        exact iteF ⟨rfl, rfl⟩
  rintro σ2 H2 ⟨rfl, rfl⟩
  -- prime parts
  have okA := okR_primeI okF
  have okB := okR_primeI okR_
  have nA := prime_ne nF
  have nB := prime_ne nR
  have wA : nm (primeI F) < 2 ^ W := Nat.lt_of_le_of_lt (nm_prime okF nF) wF
  have wB : nm (primeI R) < 2 ^ W := Nat.lt_of_le_of_lt (nm_prime okR_ nR) wR
  have lA : (primeI F).length ≤ 16 := by rw [len_primeI]; exact lF
  have lB : (primeI R).length ≤ 16 := by rw [len_primeI]; exact lR
  have back : ∀ {G'}, Gc (primeI F) (primeI R) G' → Gc F R G' := fun h => gc_of_prime okF okR_ nF nR h
  clear hG
  obtain ⟨G, hG⟩ := gc_ex okA okB nA
  have ret1 : G = [1] → ∀ {H' : Hp}, Same H2 H' → ([V.int 1] : List V).length ≤ sizeLine ∧ ∀ p, H' p = none → Q (.ref p) (upd H' p (.tup [V.int 1])) := fun z H' s' =>
    ⟨sz (by simp), fun p np => q _ [1] _ (s'.trans (same_new np)) ⟨p, rfl, upd_same⟩ (.inr (z ▸ back hG))⟩
  generalize hA' : primeI F = A at *
  generalize hB' : primeI R = B at *
  refine ⟨fun σ H' => ∃ pa pb, σ = [some (.ref pa), some (.ref pb), none, none] ∧ Same H2 H' ∧ H' pa = some (.tup (A.map V.int)) ∧ H' pb = some (.tup (B.map V.int)), ?_, ?_⟩
  · refine ⟨.ref pu, rfl, .ref pu, F, rfl, e1s eu, okF, by omega, fun z1 H3 s3 r1 => ?_⟩
    refine ⟨.ref pw, rfl, .ref pw, R, rfl, e1s (s3 _ _ ew), okR_, by omega, fun z2 H4 s4 r2 => ?_⟩
    obtain ⟨pa, rfl, ea⟩ := r1
    obtain ⟨pb, rfl, eb⟩ := r2
    rw [hA'] at ea; rw [hB'] at eb
    exact ⟨_, _, rfl, pa, pb, rfl, s3.trans s4, s4 _ _ ea, eb⟩
  rintro σ3 H3 ⟨pa, pb, rfl, s3, ea, eb⟩
  refine ⟨fun σ H' => ∃ b : Nat, σ = [some (.ref pa), some (.ref pb), some (.int (b : Int)), none] ∧ Same H3 H' ∧ 2 ≤ b ∧ b ≤ W + 2 ∧ (Sml b A ∨ Sml b B), ?_, ?_⟩
  · refine ⟨.ref pa, rfl, .ref pa, A, rfl, ⟨pa, rfl, ea⟩, by omega, fun H4 n1 s4 a1 a2 => ?_⟩
    refine ⟨.ref pb, rfl, .ref pb, B, rfl, ⟨pb, rfl, s4 _ _ eb⟩, by omega, fun H5 n2 s5 b1 b2 => ?_⟩
    refine ⟨_, _, rfl, _, _, rfl, rfl, min n1 n2 + 2, ?_, s4.trans s5, by omega, ?_, ?_⟩
    · show [_, _, some (V.int ((if (n2 : Int) < (n1 : Int) then (n2 : Int) else (n1 : Int)) + 2)), _] = _
      have : (if (n2 : Int) < (n1 : Int) then (n2 : Int) else (n1 : Int)) + 2 = ((min n1 n2 + 2 : Nat) : Int) := by split <;> omega
      rw [this]
    · have := a2 W (nm_wd wA)
      omega
    · have sm : ∀ {n : Nat} {l : List Int}, (∀ c ∈ l, Wd n c) → Sml (n + 2) l := fun h c hc => by
        have : c.natAbs < 2 ^ _ := h c hc
        rw [Nat.pow_add]
        omega
      rcases Nat.le_total n1 n2 with c | c
      · left; rw [Nat.min_eq_left c]; exact sm a1
      · right; rw [Nat.min_eq_right c]; exact sm b1
  rintro σ4 H4 ⟨b0, rfl, s4, b02, b0W, sm0⟩
  have ea := s4 _ _ ea
  have eb := s4 _ _ eb
  have s4 := s3.trans s4
  obtain ⟨E0, U0, V0, c0, hc0, eE, cE, nE⟩ := comb_small hG okA okB nA nB (N := 2 ^ W) (Nat.le_of_lt wA) (Nat.le_of_lt wB)
  generalize hT : (W + 6) * 32 + 1 = T
  have nE : 2 * nm E0 ≤ 2 ^ T := by
    have h1 : (2 * (A.length + B.length) * 2 ^ W) ^ (A.length + B.length) ≤ (2 ^ (W + 6)) ^ 32 := by
      refine Nat.le_trans (Nat.pow_le_pow_left (m := 2 ^ (W + 6)) ?_ _) (Nat.pow_le_pow_right (Nat.pow_pos (by decide)) (by omega))
      rw [Nat.pow_add, Nat.mul_comm (2 ^ W)]
      exact Nat.mul_le_mul_right _ (by omega)
    rw [← Nat.pow_mul] at h1
    rw [← hT, Nat.pow_succ]
    omega
  refine ⟨fun m σ H' => ∃ (b : Nat) (x3 : Option V), m = 2 * T - b ∧ σ = [some (.ref pa), some (.ref pb), some (.int (b : Int)), x3] ∧ Same H2 H' ∧ H' pa = some (.tup (A.map V.int)) ∧ H' pb = some (.tup (B.map V.int)) ∧ b0 ≤ b ∧ b ≤ 2 * T, ⟨2 * T - b0, b0, none, rfl, rfl, s4, ea, eb, Nat.le_refl _, by omega⟩, ?_⟩
  rintro m σ H5 ⟨b, x3, rfl, rfl, s5, ea, eb, b0b, bT⟩
  have bW : 2 ≤ b := by omega
  have sm : Sml b A ∨ Sml b B := by
    have up : ∀ l : List Int, Sml b0 l → Sml b l := fun l h c hc => Nat.lt_of_lt_of_le (h c hc) (Nat.pow_le_pow_right (by decide) b0b)
    exact sm0.elim (fun h => .inl (up _ h)) fun h => .inr (up _ h)
  refine ⟨true, rfl, iteT ⟨fun σ' H' => ∃ x3, σ' = [some (.ref pa), some (.ref pb), some (.int ((2 * b : Nat) : Int)), x3] ∧ Same H2 H' ∧ H' pa = some (.tup (A.map V.int)) ∧ H' pb = some (.tup (B.map V.int)) ∧ b ≤ T, fun σ' H' ⟨x3, a1, a2, a3, a4, a5⟩ => ⟨2 * T - 2 * b, by omega, 2 * b, x3, rfl, a1, a2, a3, a4, by omega, by omega⟩, ?_⟩⟩
  -- the figures
  generalize hgm : Nat.gcd (ev (XX b) A).natAbs (ev (XX b) B).natAbs = gm
  have gmb : ((gm : Nat) : Int).natAbs ≤ 2 ^ (b * 18) := by
    have key : ∀ l : List Int, Sml b l → l.length ≤ 16 → (ev (XX b) l).natAbs ≤ 2 ^ (b * 18) := fun l h ll => by
      have n1 : nm l ≤ l.length * 2 ^ b := nm_len fun c hc => by have := h c hc; omega
      have n2 := ev_le (2 ^ b) (Nat.pow_pos (by decide)) (n := 15) (r := l) (by omega)
      have n3 : nm l ≤ 2 ^ 4 * 2 ^ b := Nat.le_trans n1 (Nat.mul_le_mul_right _ (by omega))
      have n4 : nm l * (2 ^ b) ^ 15 ≤ 2 ^ 4 * 2 ^ b * (2 ^ b) ^ 15 := Nat.mul_le_mul_right _ n3
      refine Nat.le_trans n2 (Nat.le_trans n4 ?_)
      rw [← Nat.pow_mul, ← Nat.pow_add, ← Nat.pow_add]
      exact Nat.pow_le_pow_right (by decide) (by omega)
    rw [Int.natAbs_natCast, ← hgm]
    rcases sm with h | h
    · have n0 := sml_ev h okA nA
      exact Nat.le_trans (Nat.gcd_le_left _ (by omega)) (key A h lA)
    · have n0 := sml_ev h okB nB
      exact Nat.le_trans (Nat.gcd_le_right _ (by omega)) (key B h lB)
  have b6 : b ≤ 600000 := by omega
  refine ⟨fun σ H' => ∃ (Pp : Addr) (P0 : List Int), σ = [some (.ref pa), some (.ref pb), some (.int (b : Int)), some (.ref Pp)] ∧ Same H5 H' ∧ Dig b P0 ∧ ev (XX b) P0 = (gm : Int) ∧ P0.length ≤ 19 ∧ H' Pp = some (.tup ((primeI P0).map V.int)), ?_, ?_⟩
  · refine ⟨.ref pa, rfl, .int (b : Int), rfl, .ref pa, A, b, W, rfl, ⟨pa, rfl, ea⟩, by omega, b6, by omega, wA, fun H6 s6 => ?_⟩
    refine ⟨.ref pb, rfl, .int (b : Int), rfl, .ref pb, B, b, W, rfl, ⟨pb, rfl, s6 _ _ eb⟩, by omega, b6, by omega, wB, fun H7 s7 => ?_⟩
    refine ⟨_, _, rfl, .int (b : Int), rfl, b, 18, gm, by rw [hgm]; rfl, bW, b6, by omega, gmb, fun z P0 H8 s8 rz dP eP lP => ?_⟩
    refine ⟨z, P0, rfl, rz, dP.1, by omega, fun z2 H9 s9 rz2 => ?_⟩
    obtain ⟨Pp, rfl, eP2⟩ := rz2
    exact ⟨Pp, P0, rfl, s6.trans (s7.trans (s8.trans s9)), dP, eP, lP, eP2⟩
  rintro σ6 H6 ⟨Pp, P0, rfl, s6, dP, eP, lP, ePp⟩
  obtain ⟨g0, nP, t1, t2⟩ := told hG okA okB nA nB sm hgm.symm dP eP
  have tE := fun big => ends hG okA okB nA nB sm hgm.symm dP eP hc0 eE cE (b := b) big
  have okf := okR_primeI dP.1
  have nf := prime_ne nP
  have wf : WdA b (primeI P0) := fun c hc => by
    have p2 : 2 ^ b = 2 * 2 ^ (b - 1) := by
      conv => lhs; rw [show b = b - 1 + 1 by omega, Nat.pow_succ]
      omega
    have := le_primeI (r := P0) (b := 2 ^ (b - 1)) (fun c hc => by have := dP.2 c hc; omega) c hc
    have pp : 0 < 2 ^ (b - 1) := Nat.pow_pos (by decide)
    show c.natAbs < 2 ^ b
    omega
  have lf : (primeI P0).length ≤ 19 := by rw [len_primeI]; exact lP
  generalize primeI P0 = f0 at *
  have s6' := s5.trans s6
  have ea := s6 _ _ ea
  have eb := s6 _ _ eb
  refine ⟨fun σ H' => (σ = [some (.ref pa), some (.ref pb), some (.int (b : Int)), some (.ref Pp)] ∧ H' = H6) ∧ f0.length ≠ 1, ?_, ?_⟩
  · refine ⟨.ref Pp, rfl, Pp, _, rfl, .inr (SqT.of ePp), rfl, _, rfl, ?_⟩
    rw [dec_int, List.length_map]
    by_cases c : f0.length = 1
    · rw [show (((f0.length : Nat) : Int) == 1) = true by rw [c]; rfl]
      exact iteT (ret1 (t1 c) s6')
    · rw [show (((f0.length : Nat) : Int) == 1) = false from beq_eq_false_iff_ne.mpr (by omega)]
      exact iteF ⟨⟨rfl, rfl⟩, c⟩
  rintro σ7 H7 ⟨⟨rfl, rfl⟩, l1⟩
  refine ⟨fun σ H' => (σ = [some (.ref pa), some (.ref pb), some (.int (b : Int)), some (.ref Pp)] ∧ Same H7 H') ∧ ¬ (Dv f0 A ∧ Dv f0 B), ?_, ?_⟩
  · have room : ∀ l : List Int, l.length ≤ 16 → W + (l.length + 1) * (b + 1) ≤ 60000000 := fun l hl => by
      have : (l.length + 1) * (b + 1) ≤ 17 * (b + 1) := Nat.mul_le_mul_right _ (by omega)
      omega
    refine ⟨.ref pa, rfl, .ref Pp, rfl, .ref pa, .ref Pp, A, f0, W, b, rfl, ⟨pa, rfl, ea⟩, ⟨Pp, rfl, ePp⟩, okA, okf, nf, by omega, by omega, nm_wd wA, wf, room A lA, fun z q1 H8 s8 _ e1 rz => ?_, fun nd H8 s8 => ?_⟩
    · obtain ⟨pz, rfl, _⟩ := rz
      refine ⟨rfl, _, rfl, iteT ?_⟩
      refine ⟨.ref pb, rfl, .ref Pp, rfl, .ref pb, .ref Pp, B, f0, W, b, rfl, ⟨pb, rfl, s8 _ _ eb⟩, ⟨Pp, rfl, s8 _ _ ePp⟩, okB, okf, nf, by omega, by omega, nm_wd wB, wf, room B lB, fun z q2 H9 s9 _ e2 rz => ?_, fun nd H9 s9 => ?_⟩
      · obtain ⟨pz2, rfl, _⟩ := rz
        refine ⟨rfl, _, rfl, iteT ⟨.ref Pp, rfl, ?_⟩⟩
        refine q _ f0 _ (s6'.trans (s8.trans s9)) ⟨Pp, rfl, (s8.trans s9) _ _ ePp⟩ (.inr (back ?_))
        rw [← t2 ⟨q1, e1⟩ ⟨q2, e2⟩]
        exact hG
      · exact ⟨rfl, _, rfl, iteF ⟨⟨rfl, s8.trans s9⟩, fun z => nd z.2⟩⟩
    · exact ⟨rfl, _, rfl, iteF ⟨⟨rfl, s8⟩, fun z => nd z.1⟩⟩
  rintro σ8 H8 ⟨⟨rfl, s8⟩, no⟩
  have bT2 : b ≤ T := by
    refine Classical.byContradiction fun z => ?_
    have big : 2 * nm E0 < 2 ^ b := by
      have : 2 ^ T < 2 ^ b := Nat.pow_lt_pow_right (by decide) (by omega)
      omega
    have e := tE big
    exact no (by rw [e]; exact ⟨hG.dF, hG.dR⟩)
  refine ⟨.int (b : Int), rfl, _, _, rfl, rfl, .inr ⟨by omega, by omega⟩, some (.ref Pp), ?_, s6'.trans s8, s8 _ _ ea, s8 _ _ eb, bT2⟩
  show [_, _, some (V.int ((b : Int) * 2)), _] = _
  rw [show (b : Int) * 2 = ((2 * b : Nat) : Int) by omega]
theorem scPPlain : FnScope ["row", "shared"] ["row"] (defScope sPPlain) := ⟨rfl, rfl, rfl, by decide +kernel, rfl, by decide +kernel, by decide +kernel⟩
theorem slo_nm {r : List Int} (l : r.length ≤ 16) : nm (slo r) ≤ 2 ^ 8 * nm r := by
  have h1 : nm (slo r) ≤ (slo r).length * (16 * nm r) := nm_len fun c hc => by
    obtain ⟨k, hk, e⟩ := List.getElem_of_mem hc
    rw [← e, ← g_some hk, slo_g, Int.natAbs_mul, Int.natAbs_natCast]
    have := slo_len r
    exact Nat.mul_le_mul (by omega) (g_le_nm r _)
  have := slo_len r
  have h2 : (slo r).length * (16 * nm r) ≤ 16 * (16 * nm r) := Nat.mul_le_mul_right _ (by omega)
  omega
theorem ok_pplain (D : Def K mg "row_plain" sPPlain ["row"]) (nb : Nb mg) (cp : Cal P w K mg base "row_prime" 34 ["row"] spPrime) (cd : Cal P w K mg base "row_derivative" 1 ["row"] spDeriv) (cc : Cal P w K mg base "row_common" 35 ["row", "other"] spPCommon)
    (cq : Cal P w K mg base "row_quotient" 33 ["row", "by"] spQuot) : Cal P w K mg base "row_plain" 36 ["row"] spPPlain := by
  refine D.ok scPPlain (fun vs H Q E h => ?_) (fun f cdv A out s H vs Q E hr h => ?_)
  · obtain ⟨u, F, W, rfl, _⟩ := h; rfl
  obtain ⟨u, F, W, rfl, ⟨pu, rfl, eu⟩, okF, nF, wF, W1, lF, q⟩ := h
  refine ⟨_, Evl.pss_cut (ps_set (i := 0) scPPlain.nd rfl (Or.inl rfl) (pe_cal cp hr (by omega) (by rfl) (pa_cons (pv 0) pa_nil)))
    (Evl.pss_cut (ps_if (pt_cmpR op_lt (pe_callB (id := "len") (r := rLn K) call_len_seq (by rfl) nb.len PySem.boot_len (pa_cons (pv 0) pa_nil)) pe_int (nomark _))
      (pss_one (ps_ret (pe_ifExp (pt_cmpR op_eq (pe_callB (id := "len") (r := rLn K) call_len_seq (by rfl) nb.len PySem.boot_len (pa_cons (pv 0) pa_nil)) pe_int (nomark _)) (pv 0) (pe_tup (pa_cons pe_int pa_nil)))))
      (pss_nil))
    (Evl.pss_cut (ps_set (i := 1) scPPlain.nd rfl (Or.inl rfl) (pe_cal cc hr (by omega) (by rfl) (pa_cons (pv 0) (pa_cons (pe_cal cd hr (by omega) (by rfl) (pa_cons (pv 0) pa_nil)) pa_nil))))
    (pss_one (ps_ret (pe_ifExp (pt_cmpR op_eq (pe_callB (id := "len") (r := rLn K) call_len_seq (by rfl) nb.len PySem.boot_len (pa_cons (pv 1) pa_nil)) pe_int (nomark _)) (pv 0) (pe_cal cq hr (by omega) (by rfl) (pa_cons (pv 0) (pa_cons (pv 1) pa_nil)))))))), ?_⟩
  walk_at "rd"
  have okA := okR_primeI okF
  have nA := prime_ne nF
  have wA : nm (primeI F) < 2 ^ W := Nat.lt_of_le_of_lt (nm_prime okF nF) wF
  have lA : (primeI F).length = F.length := len_primeI F
  have short := fun l => pl_short okF nF l
  have long : ∀ {G t}, Gc (primeI F) (slo (primeI F)) G → (∀ x, ev x (primeI F) = ev x t * ev x G) → okR t → Pl F t := fun h e o => pl_prime okF nF h e o
  generalize hA : primeI F = A at *
  refine ⟨fun σ H' => ∃ pa, σ = [some (.ref pa), none] ∧ Same H H' ∧ H' pa = some (.tup (A.map V.int)), ?_, ?_⟩
  · refine ⟨.ref pu, rfl, .ref pu, F, rfl, ⟨pu, rfl, eu⟩, okF, by omega, fun z H1 s1 rz => ?_⟩
    obtain ⟨pa, rfl, ea⟩ := rz
    rw [hA] at ea
    exact ⟨pa, rfl, s1, ea⟩
  rintro σ1 H1 ⟨pa, rfl, s1, ea⟩
  refine ⟨fun σ H' => (σ = [some (.ref pa), none] ∧ H' = H1) ∧ 3 ≤ F.length, ?_, ?_⟩
  · refine ⟨.ref pa, rfl, pa, _, rfl, .inr (SqT.of ea), _, _, rfl, rfl, _, rfl, ite2 (fun c => ?_) (fun c => ⟨⟨rfl, rfl⟩, ?_⟩)⟩
    · have c := of_decide_eq_true c
      rw [List.length_map, lA] at c
      have sh := short (by omega)
      refine ⟨.ref pa, rfl, pa, _, rfl, .inr (SqT.of ea), rfl, _, rfl, ?_⟩
      rw [dec_int, List.length_map, lA]
      by_cases c2 : F.length = 2
      · rw [show (((F.length : Nat) : Int) == 2) = true by rw [c2]; rfl]
        rw [if_pos c2] at sh
        exact iteT ⟨.ref pa, rfl, q _ A _ s1 ⟨pa, rfl, ea⟩ sh⟩
      · rw [show (((F.length : Nat) : Int) == 2) = false from beq_eq_false_iff_ne.mpr (by omega)]
        rw [if_neg c2] at sh
        exact iteF ⟨sz (by simp), fun p np => q _ [1] _ (s1.trans (same_new np)) ⟨p, rfl, upd_same⟩ sh⟩
    · rw [List.length_map, lA] at c
      have : ¬ ((F.length : Int) < 3) := fun z => c (decide_eq_true z)
      omega
  rintro σ2 H2 ⟨⟨rfl, rfl⟩, l3⟩
  have wS : nm (slo A) < 2 ^ (W + 8) := by
    have := slo_nm (r := A) (by omega)
    rw [Nat.pow_add]
    omega
  refine ⟨fun σ H' => ∃ pg G, σ = [some (.ref pa), some (.ref pg)] ∧ Same H2 H' ∧ H' pg = some (.tup (G.map V.int)) ∧ Gc A (slo A) G, ?_, ?_⟩
  · refine ⟨.ref pa, rfl, .ref pa, rfl, .ref pa, A, rfl, ⟨pa, rfl, ea⟩, okA, by omega, fun z t H3 s3 rz okt gt => ?_⟩
    have et := slo_eq okt gt
    subst et
    refine ⟨.ref pa, z, A, slo A, W + 8, rfl, ⟨pa, rfl, s3 _ _ ea⟩, rz, okA, slo_ok A, Nat.lt_of_lt_of_le wA (Nat.pow_le_pow_right (by decide) (by omega)), wS, by omega, by omega, by have := slo_len A; omega, fun z2 G H4 s4 r2 cm => ?_⟩
    obtain ⟨pg, rfl, eg⟩ := r2
    exact ⟨pg, G, rfl, s3.trans s4, eg, cm.resolve_left fun z => nA z.1⟩
  rintro σ3 H3 ⟨pg, G, rfl, s3, eg, hG⟩
  have ea := s3 _ _ ea
  refine ⟨.ref pg, rfl, pg, _, rfl, .inr (SqT.of eg), rfl, _, rfl, ?_⟩
  rw [dec_int, List.length_map]
  obtain ⟨q0, okq, nq, lq, eq, _⟩ := hG.dF.fac hG.ok hG.ne okA nA
  have l1 := List.length_pos_iff.mpr hG.ne
  by_cases c : G.length = 1
  · rw [show (((G.length : Nat) : Int) == 1) = true by rw [c]; rfl]
    refine iteT ⟨.ref pa, rfl, q _ A _ (s1.trans s3) ⟨pa, rfl, ea⟩ (long hG (fun x => ?_) okA)⟩
    obtain ⟨a, rfl⟩ := List.length_eq_one_iff.mp c
    have p := hG.pos
    rw [lone_single hG.lone p, ev_one]; omega
  · rw [show (((G.length : Nat) : Int) == 1) = false from beq_eq_false_iff_ne.mpr (by omega)]
    have q0l := List.length_pos_iff.mpr nq
    have wG : nm G < 2 ^ ((2 * 16 + 1) * (W + 5) + 16) := nm_fac (n := 16) (s := W + 5) hG.dF hG.ok hG.ne okA nA (by omega) (by rw [Nat.pow_add]; omega)
    refine iteF ⟨.ref pa, rfl, .ref pg, rfl, .ref pa, .ref pg, A, G, W, _, rfl, ⟨pa, rfl, ea⟩, ⟨pg, rfl, eg⟩, okA, hG.ok, hG.ne, by omega, by omega, nm_wd wA, nm_wd wG, ?_, fun z q1 H4 s4 okq1 e1 rz => q z q1 _ (s1.trans (s3.trans s4)) rz (long hG e1 okq1), fun no => absurd hG.dF no⟩
    have : (A.length + 1) * ((2 * 16 + 1) * (W + 5) + 16 + 1) ≤ 17 * ((2 * 16 + 1) * (W + 5) + 16 + 1) := Nat.mul_le_mul_right _ (by omega)
    omega
end
end K03

set_option Elab.async false
set_option linter.all false
set_option maxRecDepth 100000
set_option maxHeartbeats 8000000
local macro_rules | `(tactic| walk_at "rd") => `(tactic| dsimp only [Evl.tCut, L2.tBits, L2.tOrT, L2.tAndT, L2.tSeq, L2.tNext, L2.tRet, L2.tRetN, L2.tAsg, L2.gName, L2.tIfS, L2.tDrop, L2.tCons, L2.tNil, L2.tC, L2.tVar, L2.tCB, L2.tAndV, L2.tOrV, L2.tNotV, L2.tB, L2.tTest, L2.tOp, L2.tUn, L2.tNot, L2.tAnd, L2.tOr, L2.tIf, L2.tCall, L2.tTup, L2.tLst, L2.tNotT, L2.tYes, L2.gTup, L2.gCons, L2.gNil, L2.gSub, L2.tBM0, L2.tBM, L2.tWhile, L2.tFor, L2.iRng1, L2.iRng2, L2.tAugS, Tw.iEnumT, L2.tCKw, L2.tAug, L2.ipI, RT.iRevA, L2.iRevR, L2.tPar, L2.tPar3, L2.tSl, L2.tNoPart, L2.tPart, Tw.tRevT, L2.rAdd, L2.rSub, L2.tBits])
namespace K03
open PySem PySem.Spec PyProof.Rows L2 Tw
def spChkR : Sp := fun vs H Q _ => ∃ a v r, vs = [v] ∧ We a H ∧ Ro H v r ∧ okR r ∧ r.length ≤ 100 ∧ ∀ x H', Same H H' → Q x H'
def spChkNo : Sp := fun vs H Q _ => ∃ a v r, vs = [v] ∧ We a H ∧ Ro H v r ∧ okR r ∧ r ≠ [] ∧ r.length ≤ 100 ∧ ∀ x H', Same H H' → Q x H'
def spChkBoth : Sp := fun vs H Q _ => ∃ a u v r s, vs = [u, v] ∧ We a H ∧ Ro H u r ∧ Ro H v s ∧ okR r ∧ okR s ∧ r.length ≤ 100 ∧ s.length ≤ 100 ∧ ∀ x H', Same H H' → Q x H'
def spApTimes : Sp := fun vs H Q _ => ∃ a u v r s, vs = [u, v] ∧ We a H ∧ Ro H u r ∧ Ro H v s ∧ okR r ∧ okR s ∧ r.length ≤ 100 ∧ s.length ≤ 100 ∧ min r.length s.length ≤ 6 ∧ CM r s ∧ ∀ z t H', Same H H' → Ro H' z t → okR t → (∀ k, g t k = cv (g r) (g s) k) → Q z H'
def spApCommon : Sp := fun vs H Q _ => ∃ (a : Addr) (u v : V) (F R : List Int) (W : Nat), vs = [u, v] ∧ We a H ∧ Ro H u F ∧ Ro H v R ∧ okR F ∧ okR R ∧ nm F < 2 ^ W ∧ nm R < 2 ^ W ∧ W ≤ 7000 ∧ F.length ≤ 16 ∧ R.length ≤ 16 ∧
  ∀ z G H', Same H H' → Ro H' z G → Cm F R G → Q z H'
def spApOver : Sp := fun vs H Q _ => ∃ (a : Addr) (u v : V) (A B : List Int) (W : Nat), vs = [u, v] ∧ We a H ∧ Ro H u A ∧ Ro H v B ∧ okR A ∧ okR B ∧ B ≠ [] ∧ nm A < 2 ^ W ∧ nm B < 2 ^ W ∧ W ≤ 7000 ∧ A.length ≤ 20 ∧ B.length ≤ 20 ∧
  (∀ z t H', Same H H' → Ro H' z t → Ov A B t → Q z H') ∧ ((¬ ∃ t, Ov A B t) → ∀ H', Same H H' → Q .non H')
def spApPlain : Sp := fun vs H Q _ => ∃ (a : Addr) (u : V) (F : List Int) (W : Nat), vs = [u] ∧ We a H ∧ Ro H u F ∧ okR F ∧ F ≠ [] ∧ nm F < 2 ^ W ∧ W ≤ 6900 ∧ F.length ≤ 16 ∧ ∀ z t H', Same H H' → Ro H' z t → Pl F t → Q z H'
theorem prime_nil : primeI [] = [] := by unfold primeI; rw [if_pos (.inr rfl)]; rfl
theorem nm_primeN {r : List Int} (ok : okR r) : nm (primeI r) ≤ nm r := by
  by_cases e : r = []
  · subst e; rw [prime_nil]; exact Nat.le_refl _
  · exact nm_prime ok e
section
variable {P : Program} {w : World} {K : PySem.W.Frag} {mg : Str → Option Value} {base : Heap}
theorem scChkR : FnScope ["row"] ["row"] (defScope sChkR) := ⟨rfl, rfl, rfl, by decide +kernel, rfl, by decide +kernel, by decide +kernel⟩
theorem ok_chkr (D : Def K mg "check_row" sChkR ["row"]) (c1 : Cal P w K mg base "is_row" 2 ["value"] (spB rowB)) : Cal P w K mg base "check_row" 3 ["row"] spChkR := by
  refine D.ok scChkR (fun vs H Q E h => ?_) (fun f cdv A out s H vs Q E hr h => ?_)
  · obtain ⟨a, v, r, rfl, _⟩ := h; rfl
  obtain ⟨a, v, r, rfl, hw, hv, ok, hl, q⟩ := h
  refine ⟨_, pss_one (ps_if (pt_not (pt_val (pe_cal c1 hr (by decide) (by rfl) (pa_cons (pv 0) pa_nil)))) pss_dead pss_nil), ?_⟩
  walk_at "rd"
  refine ⟨v, rfl, a, v, rowD r, 1, rfl, da_row hw hv, (sm_row hl).up (Nat.le_refl _) (by decide), fun H1 s1 => ⟨true, ?_, ?_⟩⟩
  · rw [rowB_ok ok]
  · exact iteF (q _ H1 s1)
theorem scChkNo : FnScope ["row"] ["row"] (defScope sChkNo) := ⟨rfl, rfl, rfl, by decide +kernel, rfl, by decide +kernel, by decide +kernel⟩
theorem ok_chkno (D : Def K mg "check_no_nought" sChkNo ["row"]) (c1 : Cal P w K mg base "is_row" 2 ["value"] (spB rowB)) : Cal P w K mg base "check_no_nought" 3 ["row"] spChkNo := by
  refine D.ok scChkNo (fun vs H Q E h => ?_) (fun f cdv A out s H vs Q E hr h => ?_)
  · obtain ⟨a, v, r, rfl, _⟩ := h; rfl
  obtain ⟨a, v, r, rfl, hw, hv, ok, ne, hl, q⟩ := h
  refine ⟨_, pss_one (ps_if (PW.pt (pw_or (pt_not (pt_val (pe_cal c1 hr (by decide) (by rfl) (pa_cons (pv 0) pa_nil)))) (pw_or1 (pt_not (pt_truth (pv 0) (fun _ => rfl)))))) pss_dead pss_nil), ?_⟩
  walk_at "rd"
  refine ⟨v, rfl, a, v, rowD r, 1, rfl, da_row hw hv, (sm_row hl).up (Nat.le_refl _) (by decide), fun H1 s1 => ⟨true, ?_, ?_⟩⟩
  · rw [rowB_ok ok]
  · obtain ⟨pu, rfl, eu⟩ := hv
    refine iteF ⟨_, rfl, _, .inr (.inl ⟨_, SqT.of (s1 _ _ eu), rfl⟩), ?_⟩
    rw [show (r.map V.int).isEmpty = false by cases r with | nil => exact absurd rfl ne | cons a l => rfl]
    exact iteF (q _ H1 s1)
theorem scChkBoth : FnScope ["row", "other"] ["row", "other"] (defScope sChkBoth) := ⟨rfl, rfl, rfl, by decide +kernel, rfl, by decide +kernel, by decide +kernel⟩
theorem ok_chkboth (D : Def K mg "check_both" sChkBoth ["row", "other"]) (c1 : Cal P w K mg base "check_row" 3 ["row"] spChkR) : Cal P w K mg base "check_both" 4 ["row", "other"] spChkBoth := by
  refine D.ok scChkBoth (fun vs H Q E h => ?_) (fun f cdv A out s H vs Q E hr h => ?_)
  · obtain ⟨a, u, v, r, s, rfl, _⟩ := h; rfl
  obtain ⟨a, u, v, r, t, rfl, hw, hu, hv, okr, okt, lr, lt, q⟩ := h
  refine ⟨_, pss_cons (ps_expr (pe_cal c1 hr (by decide) (by rfl) (pa_cons (pv 0) pa_nil))) (pss_one (ps_expr (pe_cal c1 hr (by decide) (by rfl) (pa_cons (pv 1) pa_nil)))), ?_⟩
  walk_at "rd"
  exact ⟨u, rfl, a, u, r, rfl, hw, hu, okr, lr, fun x H1 s1 => ⟨v, rfl, a, v, t, rfl, hw.to s1, hv.kt (Kt.of s1), okt, lt, fun y H2 s2 => q _ H2 (s1.trans s2)⟩⟩
theorem scApTimes : FnScope ["row", "other"] ["row", "other"] (defScope sApTimes) := ⟨rfl, rfl, rfl, by decide +kernel, rfl, by decide +kernel, by decide +kernel⟩
theorem ok_aptimes (D : Def K mg "times" sApTimes ["row", "other"]) (c1 : Cal P w K mg base "check_both" 4 ["row", "other"] spChkBoth) (c2 : Cal P w K mg base "row_times" 1 ["row", "other"] spMulR) : Cal P w K mg base "times" 5 ["row", "other"] spApTimes := by
  refine D.ok scApTimes (fun vs H Q E h => ?_) (fun f cdv A out s H vs Q E hr h => ?_)
  · obtain ⟨a, u, v, r, s, rfl, _⟩ := h; rfl
  obtain ⟨a, u, v, r, t, rfl, hw, hu, hv, okr, okt, lr, lt, lm, cm, q⟩ := h
  refine ⟨_, pss_cons (ps_expr (pe_cal c1 hr (by decide) (by rfl) (pa_cons (pv 0) (pa_cons (pv 1) pa_nil)))) (pss_one (ps_ret (pe_cal c2 hr (by decide) (by rfl) (pa_cons (pv 0) (pa_cons (pv 1) pa_nil))))), ?_⟩
  walk_at "rd"
  exact ⟨u, rfl, v, rfl, a, u, v, r, t, rfl, hw, hu, hv, okr, okt, lr, lt, fun x H1 s1 => ⟨u, rfl, v, rfl, u, v, r, t, rfl, hu.kt (Kt.of s1), hv.kt (Kt.of s1), okr, okt, lr, lt, lm, cm, fun z l H2 s2 rz okl gl => q z l H2 (s1.trans s2) rz okl gl⟩⟩
theorem scApCommon : FnScope ["row", "other"] ["row", "other"] (defScope sApCommon) := ⟨rfl, rfl, rfl, by decide +kernel, rfl, by decide +kernel, by decide +kernel⟩
theorem ok_apcommon (D : Def K mg "common" sApCommon ["row", "other"]) (c1 : Cal P w K mg base "check_both" 4 ["row", "other"] spChkBoth) (c2 : Cal P w K mg base "row_common" 35 ["row", "other"] spPCommon) : Cal P w K mg base "common" 36 ["row", "other"] spApCommon := by
  refine D.ok scApCommon (fun vs H Q E h => ?_) (fun f cdv A out s H vs Q E hr h => ?_)
  · obtain ⟨a, u, v, r, s, W, rfl, _⟩ := h; rfl
  obtain ⟨a, u, v, r, t, W, rfl, hw, hu, hv, okr, okt, wr, wt, hW, lr, lt, q⟩ := h
  refine ⟨_, pss_cons (ps_expr (pe_cal c1 hr (by omega) (by rfl) (pa_cons (pv 0) (pa_cons (pv 1) pa_nil)))) (pss_one (ps_ret (pe_cal c2 hr (by omega) (by rfl) (pa_cons (pv 0) (pa_cons (pv 1) pa_nil))))), ?_⟩
  walk_at "rd"
  exact ⟨u, rfl, v, rfl, a, u, v, r, t, rfl, hw, hu, hv, okr, okt, by omega, by omega, fun x H1 s1 => ⟨u, rfl, v, rfl, u, v, r, t, W, rfl, hu.kt (Kt.of s1), hv.kt (Kt.of s1), okr, okt, wr, wt, hW, lr, lt, fun z l H2 s2 rz gl => q z l H2 (s1.trans s2) rz gl⟩⟩
theorem scApOver : FnScope ["row", "other"] ["row", "other"] (defScope sApOver) := ⟨rfl, rfl, rfl, by decide +kernel, rfl, by decide +kernel, by decide +kernel⟩
theorem ok_apover (D : Def K mg "over" sApOver ["row", "other"]) (c1 : Cal P w K mg base "check_row" 3 ["row"] spChkR) (c2 : Cal P w K mg base "check_no_nought" 3 ["row"] spChkNo) (cp : Cal P w K mg base "row_prime" 34 ["row"] spPrime) (cq : Cal P w K mg base "row_quotient" 33 ["row", "by"] spQuot) : Cal P w K mg base "over" 35 ["row", "other"] spApOver := by
  refine D.ok scApOver (fun vs H Q E h => ?_) (fun f cdv A out s H vs Q E hr h => ?_)
  · obtain ⟨a, u, v, r, s, W, rfl, _⟩ := h; rfl
  obtain ⟨a, u, v, r, t, W, rfl, hw, hu, hv, okr, okt, nt, wr, wt, hW, lr, lt, q1, q2⟩ := h
  refine ⟨_, pss_cons (ps_expr (pe_cal c1 hr (by omega) (by rfl) (pa_cons (pv 0) pa_nil))) (pss_cons (ps_expr (pe_cal c2 hr (by omega) (by rfl) (pa_cons (pv 1) pa_nil)))
    (pss_one (ps_ret (pe_cal cq hr (by omega) (by rfl) (pa_cons (pe_cal cp hr (by omega) (by rfl) (pa_cons (pv 0) pa_nil)) (pa_cons (pe_cal cp hr (by omega) (by rfl) (pa_cons (pv 1) pa_nil)) pa_nil)))))), ?_⟩
  walk_at "rd"
  refine ⟨u, rfl, a, u, r, rfl, hw, hu, okr, by omega, fun x H1 s1 => ⟨v, rfl, a, v, t, rfl, hw.to s1, hv.kt (Kt.of s1), okt, nt, by omega, fun y H2 s2 => ?_⟩⟩
  have s12 := s1.trans s2
  refine ⟨u, rfl, u, r, rfl, hu.kt (Kt.of s12), okr, by omega, fun z1 H3 s3 r1 => ⟨v, rfl, v, t, rfl, hv.kt (Kt.of (s12.trans s3)), okt, by omega, fun z2 H4 s4 r2 => ?_⟩⟩
  have s4' := s12.trans (s3.trans s4)
  have w1 : nm (primeI r) < 2 ^ W := Nat.lt_of_le_of_lt (nm_primeN okr) wr
  have w2 : nm (primeI t) < 2 ^ W := Nat.lt_of_le_of_lt (nm_primeN okt) wt
  have room : W + ((primeI r).length + 1) * (W + 1) ≤ 60000000 := by
    rw [len_primeI]
    have : (r.length + 1) * (W + 1) ≤ 21 * (W + 1) := Nat.mul_le_mul_right _ (by omega)
    omega
  refine ⟨z1, z2, primeI r, primeI t, W, W, rfl, r1.kt (Kt.of s4), r2, okR_primeI okr, okR_primeI okt, prime_ne nt, by rw [len_primeI]; omega, by rw [len_primeI]; omega, nm_wd w1, nm_wd w2, room, fun z q H5 s5 okq e rz => ?_, fun no H5 s5 => ?_⟩
  · refine q1 z q H5 (s4'.trans s5) rz ?_
    by_cases nr : r = []
    · subst nr
      rw [prime_nil] at e
      have q0 : q = [] := Classical.byContradiction fun nq => mul_ne okq (okR_primeI okt) nq (prime_ne nt) (nil_of (okR_trim _) fun x => by rw [ev_trim, ev_mul, ← e x]; rfl)
      subst q0
      exact ⟨okR_nil, fun _ => rfl, fun z => absurd rfl z⟩
    · exact ov_of_quot okr okt nr nt okq e
  · refine q2 (fun ⟨t', ht'⟩ => no ?_) H5 (s4'.trans s5)
    by_cases nr : r = []
    · subst nr; rw [prime_nil]; exact Dv.nil _
    · exact ⟨t', quot_of_ov okr okt nr nt ht'⟩
theorem scApPlain : FnScope ["row"] ["row"] (defScope sApPlain) := ⟨rfl, rfl, rfl, by decide +kernel, rfl, by decide +kernel, by decide +kernel⟩
theorem ok_applain (D : Def K mg "plain" sApPlain ["row"]) (c2 : Cal P w K mg base "check_no_nought" 3 ["row"] spChkNo) (cp : Cal P w K mg base "row_plain" 36 ["row"] spPPlain) : Cal P w K mg base "plain" 37 ["row"] spApPlain := by
  refine D.ok scApPlain (fun vs H Q E h => ?_) (fun f cdv A out s H vs Q E hr h => ?_)
  · obtain ⟨a, u, r, W, rfl, _⟩ := h; rfl
  obtain ⟨a, u, r, W, rfl, hw, hu, okr, nr, wr, hW, lr, q⟩ := h
  refine ⟨_, pss_cons (ps_expr (pe_cal c2 hr (by omega) (by rfl) (pa_cons (pv 0) pa_nil))) (pss_one (ps_ret (pe_cal cp hr (by omega) (by rfl) (pa_cons (pv 0) pa_nil)))), ?_⟩
  walk_at "rd"
  exact ⟨u, rfl, a, u, r, rfl, hw, hu, okr, nr, by omega, fun x H1 s1 => ⟨u, rfl, u, r, W, rfl, hu.kt (Kt.of s1), okr, nr, wr, hW, lr, fun z t H2 s2 rz p => q z t H2 (s1.trans s2) rz p⟩⟩
end
end K03

set_option Elab.async false
set_option linter.all false
set_option maxRecDepth 100000
set_option maxHeartbeats 8000000
local macro_rules | `(tactic| walk_at "rd") => `(tactic| dsimp only [Evl.tCut, L2.tBits, L2.tOrT, L2.tAndT, L2.tSeq, L2.tNext, L2.tRet, L2.tRetN, L2.tAsg, L2.gName, L2.tIfS, L2.tDrop, L2.tCons, L2.tNil, L2.tC, L2.tVar, L2.tCB, L2.tAndV, L2.tOrV, L2.tNotV, L2.tB, L2.tTest, L2.tOp, L2.tUn, L2.tNot, L2.tAnd, L2.tOr, L2.tIf, L2.tCall, L2.tTup, L2.tLst, L2.tNotT, L2.tYes, L2.gTup, L2.gCons, L2.gNil, L2.gSub, L2.tBM0, L2.tBM, L2.tWhile, L2.tFor, L2.iRng1, L2.iRng2, L2.tAugS, Tw.iEnumT, L2.tCKw, L2.tAug, L2.ipI, RT.iRevA, L2.iRevR, L2.tPar, L2.tPar3, L2.tSl, L2.tNoPart, L2.tPart, Tw.tRevT, L2.rAdd, L2.rSub, L2.tBits])
namespace K03
open PySem PySem.Spec PyProof.Rows L2 Tw
def Pe : Nat → Nat
  | 0 => 1
  | 1 => 1
  | k + 2 => Pe k + 2 * Pe (k + 1)
theorem Pe_mono1 : ∀ k, Pe k ≤ Pe (k + 1)
  | 0 => Nat.le_refl _
  | k + 1 => by rw [show Pe (k + 1 + 1) = Pe k + 2 * Pe (k + 1) from rfl]; omega
theorem Pe_mono {k j : Nat} (h : k ≤ j) : Pe k ≤ Pe j := by
  induction j with
  | zero => rw [show k = 0 by omega]; exact Nat.le_refl _
  | succ j ih =>
    rcases Nat.lt_or_ge k (j + 1) with c | c
    · exact Nat.le_trans (ih (by omega)) (Pe_mono1 j)
    · rw [show k = j + 1 by omega]; exact Nat.le_refl _
theorem Pe_pos (k : Nat) : 1 ≤ Pe k := Pe_mono (k := 0) (Nat.zero_le k)
theorem Pe_step (j : Nat) : ∀ d, Pe j + (d + 2) * Pe (j + 1) ≤ Pe (j + 2 + d)
  | 0 => by rw [show Pe (j + 2 + 0) = Pe j + 2 * Pe (j + 1) from rfl]; omega
  | d + 1 => by
    have ih := Pe_step j d
    have m := Pe_mono (k := j + 1) (j := j + 1 + d) (by omega)
    rw [show Pe (j + 2 + (d + 1)) = Pe (j + 1 + d) + 2 * Pe (j + 2 + d) by rw [show j + 2 + (d + 1) = (j + 1 + d) + 2 by omega, show j + 2 + d = (j + 1 + d) + 1 by omega]; rfl]
    have : (d + 1 + 2) * Pe (j + 1) = (d + 2) * Pe (j + 1) + Pe (j + 1) := by rw [← Nat.succ_mul]
    omega
def shl (s : Nat) (R : List Int) : List Int := List.replicate s 0 ++ R
theorem shl_len (s : Nat) (R : List Int) : (shl s R).length = s + R.length := by unfold shl; rw [List.length_append, List.length_replicate]
theorem shl_g (s : Nat) (R : List Int) (i : Nat) : g (shl s R) i = if s ≤ i then g R (i - s) else 0 := by
  unfold shl g
  rw [List.getD_eq_getElem?_getD, List.getD_eq_getElem?_getD]
  split
  · rw [List.getElem?_append_right (by rw [List.length_replicate]; assumption), List.length_replicate]
  · rw [List.getElem?_append_left (by rw [List.length_replicate]; omega), List.getElem?_replicate, if_pos (by omega)]; rfl
theorem shl_ev (x : Int) (R : List Int) : ∀ s, ev x (shl s R) = x ^ s * ev x R
  | 0 => by show ev x R = x ^ 0 * ev x R; rw [Int.pow_zero, Int.one_mul]
  | s + 1 => by
    have ih := shl_ev x R s
    show 0 + x * ev x (shl s R) = _
    rw [ih, Int.pow_succ]; grind
theorem shl_nm (R : List Int) : ∀ s, nm (shl s R) = nm R
  | 0 => rfl
  | s + 1 => by
    have ih := shl_nm R s
    show (0 : Int).natAbs + nm (shl s R) = _
    rw [ih]; simp
theorem nm_dropLast : ∀ l : List Int, nm l.dropLast ≤ nm l
  | [] => Nat.le_refl _
  | [a] => by simp [nm]
  | a :: b :: l => by
    have := nm_dropLast (b :: l)
    rw [List.dropLast_cons₂, nm, nm]; omega
theorem ev_dropLast (x : Int) : ∀ l : List Int, g l (l.length - 1) = 0 → ev x l.dropLast = ev x l
  | [], _ => rfl
  | [a], h => by
    have : a = 0 := h
    subst this
    show 0 = 0 + x * 0; omega
  | a :: b :: l, h => by
    have := ev_dropLast x (b :: l) (by simpa [g] using h)
    rw [List.dropLast_cons₂]
    show a + x * ev x (b :: l).dropLast = a + x * ev x (b :: l)
    rw [this]
/-- thinned -/
def thinI (r : List Int) : List Int := r.map fun c => c / (G 0 r : Int)
theorem thin_rel {r : List Int} (ok : okR r) : ∃ d : Int, d ≠ 0 ∧ (∀ x, ev x r = d * ev x (thinI r)) ∧ okR (thinI r) ∧ (thinI r).length = r.length ∧ nm (thinI r) ≤ nm r := by
  have len : (thinI r).length = r.length := by unfold thinI; rw [List.length_map]
  by_cases ne : r = []
  · subst ne; exact ⟨1, by decide, fun x => by simp [thinI, ev], okR_nil, len, Nat.le_refl _⟩
  have g0 := G_pos ok ne
  have e : ∀ y ∈ r, y = (G 0 r : Int) * (y / (G 0 r : Int)) := fun y hy => (Int.mul_ediv_cancel' (G_int hy)).symm
  have ee : ∀ x, ev x r = (G 0 r : Int) * ev x (thinI r) := fun x => ev_map x (· / (G 0 r : Int)) e
  have eq : r = sclR (G 0 r : Int) (thinI r) := by
    unfold sclR thinI
    rw [List.map_map]
    exact ((List.map_congr_left fun y hy => (e y hy).symm).trans (List.map_id r)).symm
  refine ⟨(G 0 r : Int), by omega, ee, ok_of_top ?_, len, ?_⟩
  · have t := okR_last ok ne
    intro z
    apply t
    rw [eq, g_scl]
    have : (sclR (G 0 r : Int) (thinI r)).length = (thinI r).length := by unfold sclR; rw [List.length_map]
    rw [this, z, Int.mul_zero]
  · have h : nm r = (G 0 r : Int).natAbs * nm (thinI r) := by conv => lhs; rw [eq]; rw [nm_scl]
    rw [h]
    exact Nat.le_mul_of_pos_left _ (by omega)
def spRest : Sp := fun vs H Q _ => ∃ (u v : V) (F R : List Int) (a b : Nat), vs = [u, v] ∧ Ro H u F ∧ Ro H v R ∧ okR F ∧ okR R ∧ R ≠ [] ∧ nm F < 2 ^ a ∧ nm R < 2 ^ b ∧ F.length ≤ 100 ∧ R.length ≤ 100 ∧ a + (F.length + 2 - R.length) * (b + 1) ≤ 134000000 ∧
  ∀ z r c q H', Same H H' → Ro H' z r → okR r → r.length < R.length → c ≠ 0 → (∀ x, c * ev x F = ev x q * ev x R + ev x r) → nm r < 2 ^ (a + (F.length + 1 - R.length) * (b + 1)) → Q z H'
def spLShared : Sp := fun vs H Q _ => ∃ (u v : V) (F R : List Int) (W : Nat), vs = [u, v] ∧ Ro H u F ∧ Ro H v R ∧ okR F ∧ okR R ∧ nm F < 2 ^ W ∧ nm R < 2 ^ W ∧ F.length ≤ 16 ∧ R.length ≤ 16 ∧ 2 * ((F.length - R.length + 2) * (W + 1) * Pe R.length) ≤ 134000000 ∧
  ∀ z G H', Same H H' → Ro H' z G → Cm F R G → Q z H'
section
variable {P : Program} {w : World} {K : PySem.W.Frag} {mg : Str → Option Value} {base : Heap}
theorem scRest : FnScope ["_law_one", "_law_two", "_law_far", "_law_size", "_law_turn", "_law_by", "_law_shift", "_law_each", "_law_at"] ["_law_one", "_law_two"] (defScope sRest) := ⟨rfl, rfl, rfl, by decide +kernel, rfl, by decide +kernel, by decide +kernel⟩
theorem ok_rest (D : Def K mg "_law_rest" sRest ["_law_one", "_law_two"]) (nb : Nb mg) (ct : Cal P w K mg base "_law_trim" 1 ["_law_some"] spTrimI) : Cal P w K mg base "_law_rest" 2 ["_law_one", "_law_two"] spRest := by
  refine D.ok scRest (fun vs H Q E h => ?_) (fun f cdv A out s H vs Q E hr h => ?_)
  · obtain ⟨u, v, F, R, a, b, rfl, _⟩ := h; rfl
  obtain ⟨u, v, F, R, a, b, rfl, ⟨pu, rfl, eu⟩, ⟨pw, rfl, ew⟩, okF, okR_, nR, wF, wR, lF, lR, hW, q⟩ := h
  refine ⟨_, Evl.pss_cut (ps_asg (pe_tup (pa_cons (pe_callTy (T := "list") call_list_of (by rfl) nb.lst (by decide +kernel) (pa_cons (pv 0) pa_nil)) (pa_cons (pe_callB (id := "abs") call_abs (by rfl) nb.abs (by decide +kernel) (pa_cons (pe_ix (r := rIxT K) ix_tup (pv 1) (pe_un un_neg pe_int) (fun _ _ => rfl)) pa_nil)) (pa_cons (pe_ifExp (pt_cmpR op_gt (pe_ix (r := rIxT K) ix_tup (pv 1) (pe_un un_neg pe_int) (fun _ _ => rfl)) pe_int (nomark _)) pe_int (pe_un un_neg pe_int)) pa_nil)))) (pg_tup rfl (pgs_cons (pg_name (i := 2) scRest.nd rfl (Or.inl rfl)) (pgs_cons (pg_name (i := 3) scRest.nd rfl (Or.inr rfl)) (pgs_cons (pg_name (i := 4) scRest.nd rfl (Or.inl rfl)) pgs_nil)))))
    (Evl.pss_cut (ps_while PassesOwn.never (pt_cmpR op_ge (pe_callB (id := "len") (r := rLn K) call_len_seq (by rfl) nb.len PySem.boot_len (pa_cons (pv 2) pa_nil)) (pe_callB (id := "len") (r := rLn K) call_len_seq (by rfl) nb.len PySem.boot_len (pa_cons (pv 1) pa_nil)) (nomark _))
      (Evl.pss_cut (ps_par (i := 5) (j := 6) rfl scRest.nd rfl rfl (by decide) rfl rfl (pa_cons (pe_op op_mulX (pe_ix (r := rIxL K) ix_list (pv 2) (pe_un un_neg pe_int) (fun _ _ => rfl)) (pv 4)) (pa_cons (pe_op op_sub (pe_callB (id := "len") (r := rLn K) call_len_seq (by rfl) nb.len PySem.boot_len (pa_cons (pv 2) pa_nil)) (pe_callB (id := "len") (r := rLn K) call_len_seq (by rfl) nb.len PySem.boot_len (pa_cons (pv 1) pa_nil))) pa_nil)) rfl)
    (Evl.pss_cut (ps_setLc (i := 2) (own := [("_law_each", 7)]) (g := gName 7) (tt := tYes) rfl scRest.nd rfl rfl (by rfl) (pi_list (pv 2)) (blkOk_by (N := ["_law_one", "_law_two", "_law_far", "_law_size", "_law_turn", "_law_by", "_law_shift", "_law_each", "_law_at"]) (sc := defScope sRest) (by decide +kernel)) (fun _ _ _ _ _ => pg_name (i := 7) scRest.nd rfl (Or.inl rfl)) (fun _ _ _ _ _ => pts_nil) (fun _ _ _ _ _ => (pe_op op_mulX (pv 3) (pv 7))))
    (Evl.pss_cut (ps_for PassesOwn.never rfl (pi_enumT (by rfl) nb.enm (pv 1)) (pg_tup rfl (pgs_cons (pg_name (i := 8) scRest.nd rfl (Or.inl rfl)) (pgs_cons (pg_name (i := 7) scRest.nd rfl (Or.inl rfl)) pgs_nil)))
      (pss_one (ps_asg (pe_op op_sub (pe_ix (r := rIxL K) ix_list (pv 2) (pe_op op_add (pv 6) (pv 8)) (fun _ _ => rfl)) (pe_op op_mulX (pv 5) (pv 7))) (pg_sub (pv 2) (pe_op op_add (pv 6) (pv 8)) set_list))))
    (pss_one (ps_expr (pe_bm0 PySem.F.plainAttrs_list PySem.F.slot_list_pop PySem.F.type_list_pop mt_pop (pv 2))))))))
    (pss_one (ps_ret (pe_cal ct hr (by omega) (by rfl) (pa_cons (pv 2) pa_nil))))), ?_⟩
  walk_at "rd"
  have lR0 := List.length_pos_iff.mpr nR
  have h0 : hd R ≠ 0 := okR_last okR_ nR
  have hb : Wd b (hd R) := (nm_wd wR).g _
  generalize hh : hd R = h at *
  obtain ⟨sz_, tn, hst, hs0, htt, hsW⟩ : ∃ sz_ tn : Int, (sz_ = if h < 0 then -h else h) ∧ sz_ ≠ 0 ∧ tn * h = sz_ ∧ Wd b sz_ := by
    rcases Int.lt_or_gt_of_ne h0 with c | c
    · exact ⟨-h, -1, by rw [if_pos c], by omega, by omega, hb.neg⟩
    · exact ⟨h, 1, by rw [if_neg (by omega)], by omega, by omega, hb⟩
  refine ⟨fun σ H' => ∃ L, σ = [some (.ref pu), some (.ref pw), some (.ref L), some (.int sz_), some (.int tn), none, none, none, none] ∧ Same H H' ∧ H L = none ∧ H' L = some (.lst (F.map V.int)), ?_, ?_⟩
  · refine ⟨.ref pu, rfl, pu, _, rfl, .inr (SqT.of eu), fun L nL => ?_⟩
    have s0 := same_new (o := .lst (F.map V.int)) nL
    have at1 : atI (R.map V.int) (-1) = some (.int h) := by rw [at_last lR0, hh]
    refine ⟨.ref pw, rfl, 1, rfl, pw, _, _, _, rfl, rfl, SqT.of (s0 _ _ ew), at1, h, rfl, .ref pw, rfl, 1, rfl, pw, _, _, _, rfl, rfl, SqT.of (s0 _ _ ew), at1, _, _, rfl, rfl, _, rfl, ?_⟩
    have tE : ∀ t : Int, t * h = sz_ → t = tn := fun t ht => Int.eq_of_mul_eq_mul_right h0 (ht.trans htt.symm)
    refine ite2 (fun c => ?_) (fun c => ?_)
    · have c := of_decide_eq_true c
      have t1 := tE 1 (by rw [hst, if_neg (by omega)]; omega)
      exact ⟨sz (by simp), fun p np => ⟨p, _, rfl, SqT.of upd_same, rfl, _, _, rfl, _, _, rfl, _, _, rfl, rfl, L, by
        rw [← hst]; rw [← t1]; rfl, s0.trans (same_new np), nL, by rw [upd_ne (fun z => by rw [← z, upd_same] at np; cases np)]; exact upd_same⟩⟩
    · have c : ¬ (0 < h) := fun z => c (decide_eq_true z)
      have t1 := tE (-1) (by rw [hst, if_pos (by omega)]; omega)
      exact ⟨1, rfl, ⟨sz (by simp), fun p np => ⟨p, _, rfl, SqT.of upd_same, rfl, _, _, rfl, _, _, rfl, _, _, rfl, rfl, L, by
        rw [← hst]; rw [← t1]; rfl, s0.trans (same_new np), nL, by rw [upd_ne (fun z => by rw [← z, upd_same] at np; cases np)]; exact upd_same⟩⟩⟩
  rintro σ1 H1 ⟨L, rfl, s1, nL, eL⟩
  refine ⟨fun σ H' => ∃ (L' : Addr) (l : List Int) (x5 x6 x7 x8 : Option V) (c : Int) (qq : List Int), σ = [some (.ref pu), some (.ref pw), some (.ref L'), some (.int sz_), some (.int tn), x5, x6, x7, x8] ∧ Same H H' ∧ H' L' = some (.lst (l.map V.int)) ∧ l.length < R.length ∧ c ≠ 0 ∧ (∀ x, c * ev x F = ev x qq * ev x R + ev x l) ∧ l.length ≤ F.length ∧ nm l < 2 ^ (a + (F.length + 1 - R.length) * (b + 1)), ?_, ?_⟩
  · refine ⟨fun m σ H' => ∃ (L' : Addr) (l : List Int) (x5 x6 x7 x8 : Option V) (c : Int) (qq : List Int), m = l.length ∧ σ = [some (.ref pu), some (.ref pw), some (.ref L'), some (.int sz_), some (.int tn), x5, x6, x7, x8] ∧ Same H H' ∧ H L' = none ∧ H' L' = some (.lst (l.map V.int)) ∧ c ≠ 0 ∧ (∀ x, c * ev x F = ev x qq * ev x R + ev x l) ∧ l.length ≤ F.length ∧ (R.length ≤ l.length + 1 ∨ l.length = F.length) ∧ nm l < 2 ^ (a + (F.length - l.length) * (b + 1)),
      ⟨F.length, L, F, none, none, none, none, 1, [], rfl, rfl, s1, nL, eL, by decide, fun x => by rw [ev_nil]; omega, Nat.le_refl _, .inr rfl, by rw [Nat.sub_self, Nat.zero_mul]; exact wF⟩, ?_⟩
    rintro m σ H2 ⟨L', l, x5, x6, x7, x8, c, qq, rfl, rfl, s2, nL', eL', c0, ee, ll, lo, wl⟩
    refine ⟨.ref L', rfl, L', _, rfl, .inl (SqL.of eL'), .ref pw, rfl, pw, _, rfl, .inr (SqT.of (s2 _ _ ew)), _, _, rfl, rfl, _, rfl, ite2 (fun t => ?_) (fun t => ?_)⟩
    rotate_left
    · have t : ¬ ((R.length : Int) ≤ (l.length : Int)) := fun z => t (decide_eq_true (by rw [List.length_map, List.length_map]; exact z))
      refine ⟨L', l, x5, x6, x7, x8, c, qq, rfl, s2, eL', by omega, c0, ee, ll, Nat.lt_of_lt_of_le wl (Nat.pow_le_pow_right (by decide) (Nat.add_le_add_left (Nat.mul_le_mul_right _ ?_) _))⟩
      rcases lo with z | z <;> omega
    have t := of_decide_eq_true t
    rw [List.length_map, List.length_map] at t
    have lR1 : R.length ≤ l.length := by omega
    have ll0 : 1 ≤ l.length := by omega
    generalize hA : a + (F.length - l.length) * (b + 1) = Aa at wl
    have rA : Aa + b + 1 + b ≤ 134000000 := by
      have : (F.length - l.length) * (b + 1) + 2 * (b + 1) ≤ (F.length + 2 - R.length) * (b + 1) := by
        rw [← Nat.add_mul]; exact Nat.mul_le_mul_right _ (by omega)
      omega
    have wla := nm_wd wl
    generalize hla : hd l = la
    have wla0 : Wd Aa la := by rw [← hla]; exact wla.g _
    have wby : Wd Aa (la * tn) := by
      have : (la * tn).natAbs = la.natAbs := by
        have h1 : (tn * h).natAbs = h.natAbs := by rw [htt, hst]; split <;> omega
        rw [Int.natAbs_mul] at h1
        have h2 : tn.natAbs = 1 := by
          have : 0 < h.natAbs := by omega
          exact Nat.eq_of_mul_eq_mul_right this (by omega)
        rw [Int.natAbs_mul, h2, Nat.mul_one]
      unfold Wd; rw [this]; exact wla0
    generalize hsf : l.length - R.length = sf
    -- what comes of it
    generalize hl2 : addR (sclR sz_ l) (sclR (-(la * tn)) (shl sf R)) = l2
    have len2 : l2.length = l.length := by
      rw [← hl2, ad_len]; unfold sclR; rw [List.length_map, List.length_map, shl_len]; omega
    have g2 : ∀ i, g l2 i = sz_ * g l i - (if sf ≤ i then la * tn * g R (i - sf) else 0) := fun i => by
      rw [← hl2, g_add, g_scl, g_scl, shl_g]
      split <;> grind
    have top0 : g l2 (l2.length - 1) = 0 := by
      rw [g2, len2, if_pos (by omega), show l.length - 1 - sf = R.length - 1 by omega]
      have e1 : g l (l.length - 1) = la := hla
      have e2 : g R (R.length - 1) = h := hh
      rw [e1, e2, ← htt]; grind
    have ev2 : ∀ x, ev x l2.dropLast = sz_ * ev x l - la * tn * (x ^ sf * ev x R) := fun x => by
      rw [ev_dropLast x l2 top0, ← hl2, ev_add, ev_scl, ev_scl, shl_ev]; grind
    have nm2 : nm l2.dropLast < 2 ^ (Aa + (b + 1)) := by
      refine Nat.lt_of_le_of_lt (nm_dropLast _) ?_
      rw [← hl2]
      refine Nat.lt_of_le_of_lt (nm_add _ _) ?_
      rw [nm_scl, nm_scl, shl_nm, Int.natAbs_neg]
      have a1 : sz_.natAbs * nm l < 2 ^ b * 2 ^ Aa := Nat.lt_of_le_of_lt (Nat.mul_le_mul_left _ (Nat.le_of_lt wl)) (Nat.mul_lt_mul_of_pos_right hsW (Nat.pow_pos (by decide)))
      have a2 : (la * tn).natAbs * nm R < 2 ^ Aa * 2 ^ b := Nat.lt_of_le_of_lt (Nat.mul_le_mul_left _ (Nat.le_of_lt wR)) (Nat.mul_lt_mul_of_pos_right wby (Nat.pow_pos (by decide)))
      rw [← Nat.pow_add] at a1 a2
      rw [show Aa + (b + 1) = Aa + b + 1 by omega, Nat.pow_succ]
      rw [Nat.add_comm b Aa] at a1
      omega
    refine ⟨fun σ' H' => ∃ (L2 : Addr) (x7 x8 : Option V), σ' = [some (.ref pu), some (.ref pw), some (.ref L2), some (.int sz_), some (.int tn), some (.int (la * tn)), some (.int (sf : Int)), x7, x8] ∧ Same H H' ∧ H L2 = none ∧ H' L2 = some (.lst (l2.dropLast.map V.int)), ?_, ?_⟩
    · rintro σ' H' ⟨L2, x7, x8, rfl, b1, b2, b3⟩
      have ld : l2.dropLast.length = l.length - 1 := by rw [List.length_dropLast, len2]
      refine ⟨l2.dropLast.length, by omega, L2, l2.dropLast, _, _, x7, x8, sz_ * c, addR (sclR sz_ qq) (sclR (la * tn) (mono sf)), rfl, rfl, b1, b2, b3, Int.mul_ne_zero hs0 c0, fun x => ?_, by omega, .inl (by omega), ?_⟩
      · have := ee x
        rw [ev2, ev_add, ev_scl, ev_scl, ev_mono]; grind
      · rw [ld]
        have : a + (F.length - (l.length - 1)) * (b + 1) = Aa + (b + 1) := by
          rw [← hA, show F.length - (l.length - 1) = F.length - l.length + 1 by omega, Nat.add_mul]; omega
        rw [this]; exact nm2
    refine ⟨fun σ H' => σ = [some (.ref pu), some (.ref pw), some (.ref L'), some (.int sz_), some (.int tn), some (.int (la * tn)), some (.int (sf : Int)), x7, x8] ∧ H' = H2, ?_, ?_⟩
    · refine ⟨.ref L', rfl, 1, rfl, L', _, -1, .int la, rfl, rfl, SqL.of eL', by rw [at_last ll0, hla], .int tn, rfl, _, _, rfl, rfl, wla0.cx (m := 1) ?_ (by omega), .ref L', rfl, L', _, rfl, .inl (SqL.of eL'), .ref pw, rfl, pw, _, rfl, .inr (SqT.of (s2 _ _ ew)), _, _, rfl, rfl, _, _, rfl, ?_, rfl⟩
      · have h1 : (tn * h).natAbs = h.natAbs := by rw [htt, hst]; split <;> omega
        rw [Int.natAbs_mul] at h1
        have h2 : tn.natAbs = 1 := by
          have : 0 < h.natAbs := by omega
          exact Nat.eq_of_mul_eq_mul_right this (by omega)
        show tn.natAbs < 2 ^ 1
        omega
      · have : ((l.map V.int).length : Int) - ((R.map V.int).length : Int) = (sf : Int) := by rw [List.length_map, List.length_map]; omega
        show [_, _, _, _, _, some (V.int (la * tn)), some (V.int (((l.map V.int).length : Int) - ((R.map V.int).length : Int))), _, _] = _
        rw [this]
    rintro σ3 H3 ⟨rfl, rfl⟩
    refine ⟨fun σ H' => ∃ M, σ = [some (.ref pu), some (.ref pw), some (.ref M), some (.int sz_), some (.int tn), some (.int (la * tn)), some (.int (sf : Int)), x7, x8] ∧ Same H H' ∧ H M = none ∧ H' M = some (.lst ((sclR sz_ l).map V.int)), ?_, ?_⟩
    · refine lc_relL (S := fun _ v k => v = V.int k) (R := fun _ v k => v = V.int k) (g := fun x => sz_ * x) (rs := l) (p := L') (xs := l.map V.int) (stable_eq _) (stable_eq _) rfl eL' (RelA.of_map _) (by omega) (fun x => rfl) (fun x d H4 hd s4 rx Z hZ => ?_) fun M ys H4 s4 nM eM ry => ?_
      · subst rx
        exact ⟨.int sz_, rfl, .int d, rfl, _, _, rfl, rfl, hsW.cx (wla d hd) (by omega), hZ _ _ (Same.refl _) rfl⟩
      · have ey := RelA.eq_map ry
        exact ⟨M, rfl, s2.trans s4, s2.free nM, by rw [eM, ey]; rfl⟩
    rintro σ4 H4 ⟨M, rfl, s4, nM, eM⟩
    refine ⟨fun σ H' => ∃ x7 x8, σ = [some (.ref pu), some (.ref pw), some (.ref M), some (.int sz_), some (.int tn), some (.int (la * tn)), some (.int (sf : Int)), x7, x8] ∧ Same H H' ∧ H' M = some (.lst (l2.map V.int)), ?_, ?_⟩
    · refine ⟨.ref pw, rfl, pw, R.map V.int, rfl, SqT.of (s4 _ _ ew), for_enumT (xs := R.map V.int) (fun j σ H' => ∃ (x7 x8 : Option V) (l' : List Int), σ = [some (.ref pu), some (.ref pw), some (.ref M), some (.int sz_), some (.int tn), some (.int (la * tn)), some (.int (sf : Int)), x7, x8] ∧ Same H H' ∧ H' M = some (.lst (l'.map V.int)) ∧ l'.length = l.length ∧ ∀ i, g l' i = sz_ * g l i - (if sf ≤ i ∧ i - sf < j then la * tn * g R (i - sf) else 0)) ?_ ?_ ?_ ?_⟩
      · exact ⟨x7, x8, sclR sz_ l, rfl, s4, eM, by unfold sclR; rw [List.length_map], fun i => by rw [g_scl, if_neg (by omega)]; omega⟩
      · rintro j σ H' hj ⟨x7, x8, l', rfl, s5, _⟩
        exact SqT.of (s5 _ _ ew)
      · rintro j x p σ H5 hx ⟨x7, x8, l', rfl, s5, eM5, ll5, gl5⟩ np
        have hj : j < R.length := by have := (List.getElem?_eq_some_iff.mp hx).1; rwa [List.length_map] at this
        rw [at_g hj] at hx
        injection hx with hx
        subst hx
        have s6 := s5.trans (same_new (o := .tup [.int (j : Nat), .int (g R j)]) np)
        have nM2 : p ≠ M := fun z => by rw [z, eM5] at np; cases np
        have eM6 : upd H5 p (.tup [.int (j : Nat), .int (g R j)]) M = some (.lst (l'.map V.int)) := by rw [upd_ne nM2.symm]; exact eM5
        refine ⟨p, _, rfl, SqT.of upd_same, rfl, _, _, rfl, _, _, rfl, rfl, ?_⟩
        generalize upd H5 p (.tup [.int (j : Nat), .int (g R j)]) = H6 at s6 eM6 ⊢
        have ij : (sf : Int) + (j : Int) = ((sf + j : Nat) : Int) := by omega
        have gl : (l'.map V.int)[sf + j]? = some (.int (g l' (sf + j))) := at_g (by omega)
        refine ⟨.ref M, rfl, .int (sf : Int), rfl, .int (j : Int), rfl, _, _, rfl, rfl, ?_⟩
        walk_at "rd"
        rw [ij]
        refine ⟨M, _, _, _, rfl, rfl, SqL.of eM6, atI_nat gl, .int (la * tn), rfl, .int (g R j), rfl, _, _, rfl, rfl, wby.cx ((nm_wd wR).g j) (by omega), _, _, rfl, rfl, .ref M, rfl, .int (sf : Int), rfl, .int (j : Int), rfl, _, _, rfl, rfl, ?_⟩
        walk_at "rd"
        rw [ij]
        refine ⟨M, _, _, sf + j, rfl, rfl, eM6, ixN_nat (by rw [List.length_map]; omega), _, _, l'.set (sf + j) (g l' (sf + j) - la * tn * g R j), rfl, same_upd s6 nM, by rw [upd_same, List.map_set], by rw [List.length_set]; exact ll5, fun i => ?_⟩
        rw [g_set (by omega), gl5, gl5]
        by_cases e : i = sf + j
        · subst e
          rw [if_pos rfl, if_neg (by omega), if_pos (by omega), show sf + j - sf = j by omega]
          omega
        · rw [if_neg e]
          by_cases e2 : sf ≤ i ∧ i - sf < j
          · rw [if_pos e2, if_pos (by omega)]
          · rw [if_neg e2, if_neg (by omega)]
      · rintro σ H5 ⟨x7, x8, l', rfl, s5, eM5, ll5, gl5⟩
        refine ⟨x7, x8, rfl, s5, ?_⟩
        rw [eM5, row_eq (r := l') (s := l2) (by omega) fun i => ?_]
        rw [gl5, g2, List.length_map]
        congr 1
        by_cases e : sf ≤ i
        · rw [if_pos e]
          by_cases e2 : i - sf < R.length
          · rw [if_pos ⟨e, e2⟩]
          · rw [if_neg (fun z => e2 z.2), g_none (r := R) (by omega), Int.mul_zero]
        · rw [if_neg e, if_neg (fun z => e z.1)]
    rintro σ5 H5 ⟨x7, x8, rfl, s5, eM5⟩
    have l20 : 0 < l2.length := by omega
    refine ⟨.ref M, rfl, .inl ⟨rfl, _, SqL.of eM5⟩, M, l2.map V.int, .int (g l2 (l2.length - 1)), rfl, rfl, eM5, ?_, M, x7, x8, rfl, same_upd s5 nM, nM, ?_⟩
    · rw [List.length_map]
      exact at_g (by omega)
    · rw [upd_same, List.map_dropLast]
  rintro σ6 H6 ⟨L', l, x5, x6, x7, x8, c, qq, rfl, s6, eL', lR', c0, ee, ll, wl⟩
  refine ⟨.ref L', rfl, L', l, rfl, .inl eL', by omega, fun z H7 s7 rz => ?_⟩
  exact q z (trimI l) c qq H7 (s6.trans s7) rz (okR_trim _) (Nat.lt_of_le_of_lt (trimBy_len _ _) lR') c0 (fun x => by rw [ev_trim]; exact ee x) (Nat.lt_of_le_of_lt (nm_trim _) wl)
end
end K03

set_option Elab.async false
set_option linter.all false
set_option maxRecDepth 100000
set_option maxHeartbeats 8000000
local macro_rules | `(tactic| walk_at "rd") => `(tactic| dsimp only [Evl.tCut, L2.tBits, L2.tOrT, L2.tAndT, L2.tSeq, L2.tNext, L2.tRet, L2.tRetN, L2.tAsg, L2.gName, L2.tIfS, L2.tDrop, L2.tCons, L2.tNil, L2.tC, L2.tVar, L2.tCB, L2.tAndV, L2.tOrV, L2.tNotV, L2.tB, L2.tTest, L2.tOp, L2.tUn, L2.tNot, L2.tAnd, L2.tOr, L2.tIf, L2.tCall, L2.tTup, L2.tLst, L2.tNotT, L2.tYes, L2.gTup, L2.gCons, L2.gNil, L2.gSub, L2.tBM0, L2.tBM, L2.tWhile, L2.tFor, L2.iRng1, L2.iRng2, L2.tAugS, Tw.iEnumT, L2.tCKw, L2.tAug, L2.ipI, RT.iRevA, L2.iRevR, L2.tPar, L2.tPar3, L2.tSl, L2.tNoPart, L2.tPart, Tw.tRevT, L2.rAdd, L2.rSub, L2.tBits])
namespace K03
open PySem PySem.Spec PyProof.Rows L2 Tw
theorem gc_step {f r r' G q : List Int} {c d : Int} (c0 : c ≠ 0) (d0 : d ≠ 0) (e : ∀ x, c * ev x f = ev x q * ev x r + d * ev x r') (h : Gc r r' G) : Gc f r G := by
  obtain ⟨t, U, V, t0, eC⟩ := h.comb
  obtain ⟨a, ha⟩ := h.dF
  obtain ⟨b, hb⟩ := h.dR
  refine ⟨h.ok, h.ne, h.lone, h.pos, dv_gauss (q := addR (mulR q a) (sclR d b)) h.lone c0 fun x => ?_, h.dF, d * t, sclR c V, addR (sclR d U) (sclR (-1) (mulR V q)), Int.mul_ne_zero d0 t0, fun x => ?_⟩
  · rw [e x, ha x, hb x, ev_add, ev_mul, ev_scl]; grind
  · have e1 := e x
    have e2 := eC x
    rw [ev_add, ev_scl, ev_scl, ev_scl, ev_mul]
    grind
/-- the sizes of a pair on the way -/
def Stg (V0 L0 : Nat) (f r : List Int) : Prop := ∃ j a b, nm f < 2 ^ a ∧ nm r < 2 ^ b ∧ a + 1 ≤ V0 * Pe j ∧ b + 1 ≤ V0 * Pe (j + 1) ∧ r.length < f.length ∧ f.length + j ≤ L0
section
variable {P : Program} {w : World} {K : PySem.W.Frag} {mg : Str → Option Value} {base : Heap}
theorem scLShared : FnScope ["_law_one", "_law_two", "_law_far", "_law_rest_here"] ["_law_one", "_law_two"] (defScope sLShared) := ⟨rfl, rfl, rfl, by decide +kernel, rfl, by decide +kernel, by decide +kernel⟩
theorem ok_lshared (D : Def K mg "_law_shared" sLShared ["_law_one", "_law_two"]) (ct : Cal P w K mg base "_law_thin" 33 ["_law_line_here"] spThin) (cr : Cal P w K mg base "_law_rest" 2 ["_law_one", "_law_two"] spRest)
    (cp : Cal P w K mg base "_law_prime" 34 ["_law_line_here"] spPrime) : Cal P w K mg base "_law_shared" 35 ["_law_one", "_law_two"] spLShared := by
  refine D.ok scLShared (fun vs H Q E h => ?_) (fun f cdv A out s H vs Q E hr h => ?_)
  · obtain ⟨u, v, F, R, W, rfl, _⟩ := h; rfl
  obtain ⟨u, v, F, R, W, rfl, ⟨pu, rfl, eu⟩, ⟨pw, rfl, ew⟩, okF, okR_, wF, wR, lF, lR, hW, q⟩ := h
  refine ⟨_, Evl.pss_cut (ps_par (i := 2) (j := 3) rfl scLShared.nd rfl rfl (by decide) rfl rfl (pa_cons (pe_cal ct hr (by omega) (by rfl) (pa_cons (pv 0) pa_nil)) (pa_cons (pe_cal ct hr (by omega) (by rfl) (pa_cons (pv 1) pa_nil)) pa_nil)) rfl)
    (Evl.pss_cut (ps_while PassesOwn.never (pt_cmpR (op_neT0 hr.units) (pv 3) (pe_tup pa_nil) (nomark _))
      (pss_one (ps_par (i := 2) (j := 3) rfl scLShared.nd rfl rfl (by decide) rfl rfl (pa_cons (pv 3) (pa_cons (pe_cal ct hr (by omega) (by rfl) (pa_cons (pe_cal cr hr (by omega) (by rfl) (pa_cons (pv 2) (pa_cons (pv 3) pa_nil))) pa_nil)) pa_nil)) rfl)))
    (pss_one (ps_ret (pe_cal cp hr (by omega) (by rfl) (pa_cons (pv 2) pa_nil))))), ?_⟩
  walk_at "rd"
  obtain ⟨dF, dF0, eF, okF', lF', nF'⟩ := thin_rel okF
  obtain ⟨dR, dR0, eR, okR', lR', nR'⟩ := thin_rel okR_
  have back : ∀ G, Cm (thinI F) (thinI R) G → Cm F R G := fun G h => by
    rcases h with ⟨a, b, c⟩ | h
    · exact .inl ⟨List.length_eq_zero_iff.mp (by rw [← lF', a]; rfl), List.length_eq_zero_iff.mp (by rw [← lR', b]; rfl), c⟩
    · exact .inr (h.scale (a := 1) (b := dF) (c := 1) (d := dR) (by decide) dF0 (by decide) dR0 (fun x => by rw [eF x]; omega) (fun x => by rw [eR x]; omega))
  have wF' := Nat.lt_of_le_of_lt nF' wF
  have wR' := Nat.lt_of_le_of_lt nR' wR
  refine ⟨fun σ H' => ∃ p1 p2, σ = [some (.ref pu), some (.ref pw), some (.ref p1), some (.ref p2)] ∧ Same H H' ∧ H' p1 = some (.tup ((thinI F).map V.int)) ∧ H' p2 = some (.tup ((thinI R).map V.int)), ?_, ?_⟩
  · refine ⟨.ref pu, rfl, .ref pu, F, rfl, ⟨pu, rfl, eu⟩, okF, by omega, fun z1 H1 s1 r1 => ⟨.ref pw, rfl, .ref pw, R, rfl, ⟨pw, rfl, s1 _ _ ew⟩, okR_, by omega, fun z2 H2 s2 r2 => ?_⟩⟩
    obtain ⟨p1, rfl, e1⟩ := r1
    obtain ⟨p2, rfl, e2⟩ := r2
    exact ⟨_, _, rfl, p1, p2, rfl, s1.trans s2, s2 _ _ e1, e2⟩
  rintro σ1 H1 ⟨p1, p2, rfl, s1, e1, e2⟩
  generalize hV : (F.length - R.length + 2) * (W + 1) = V0 at hW
  have vP : 2 * (V0 * Pe R.length) ≤ 134000000 := hW
  have W1 : W + 1 ≤ V0 := by rw [← hV]; exact Nat.le_mul_of_pos_left _ (by omega)
  have emp : ∀ l : List Int, (l.map V.int).isEmpty = l.isEmpty := fun l => by cases l <;> rfl
  refine ⟨fun σ H' => ∃ p1 p2 f0, σ = [some (.ref pu), some (.ref pw), some (.ref p1), some (.ref p2)] ∧ Same H H' ∧ H' p1 = some (.tup (f0.map V.int)) ∧ okR f0 ∧ f0.length ≤ 16 ∧ Cm F R (primeI f0), ?_, ?_⟩
  · refine ⟨fun m σ H' => ∃ p1 p2 f0 r0, m = r0.length ∧ σ = [some (.ref pu), some (.ref pw), some (.ref p1), some (.ref p2)] ∧ Same H H' ∧ H' p1 = some (.tup (f0.map V.int)) ∧ H' p2 = some (.tup (r0.map V.int)) ∧ okR f0 ∧ okR r0 ∧ f0.length ≤ 16 ∧ (∀ G, Cm f0 r0 G → Cm F R G) ∧
        ((f0 = thinI F ∧ r0 = thinI R) ∨ Stg V0 R.length f0 r0),
      ⟨(thinI R).length, p1, p2, thinI F, thinI R, rfl, rfl, s1, e1, e2, okF', okR', by omega, back, .inl ⟨rfl, rfl⟩⟩, ?_⟩
    rintro m σ H2 ⟨p1, p2, f0, r0, rfl, rfl, s2, e1, e2, okf, okr, lf, bk, st⟩
    refine ⟨.ref p2, rfl, sz (by decide), fun t nt => ?_⟩
    have s3 := same_new (o := .tup []) nt
    refine ⟨p2, t, r0.map V.int, [], rfl, rfl, SqT.of (s3 _ _ e2), SqT.of upd_same, rfl, _, rfl, ?_⟩
    have e1 := s3 _ _ e1
    have e2 := s3 _ _ e2
    have s3 := s2.trans s3
    generalize upd H2 t (.tup []) = H3 at s3 e1 e2 ⊢
    rw [emp]
    by_cases nr : r0 = []
    · subst nr
      refine iteF ⟨p1, p2, f0, rfl, s3, e1, okf, lf, bk _ ?_⟩
      by_cases nf : f0 = []
      · subst nf; exact .inl ⟨rfl, rfl, prime_nil⟩
      · exact .inr (gc_nil okf nf)
    rw [show (!r0.isEmpty) = true by cases r0 with | nil => exact absurd rfl nr | cons a l => rfl]
    have lr0 := List.length_pos_iff.mpr nr
    -- the sizes
    obtain ⟨a, b, wa, wb, room, nxt⟩ : ∃ a b, nm f0 < 2 ^ a ∧ nm r0 < 2 ^ b ∧ a + (f0.length + 2 - r0.length) * (b + 1) ≤ 134000000 ∧ ∀ r1 : List Int, r1.length < r0.length → nm r1 < 2 ^ (a + (f0.length + 1 - r0.length) * (b + 1)) → Stg V0 R.length r0 r1 := by
      rcases st with ⟨rfl, rfl⟩ | ⟨j, a, b, wa, wb, ja, jb, lt, lj⟩
      · have k1 : 1 ≤ Pe R.length := Pe_pos _
        have v1 : V0 ≤ V0 * Pe R.length := Nat.le_mul_of_pos_right _ k1
        have e3 : ((thinI F).length + 1 - (thinI R).length) * (W + 1) + (W + 1) ≤ V0 := by
          rw [← hV, ← Nat.succ_mul]
          exact Nat.mul_le_mul_right _ (by omega)
        refine ⟨W, W, wF', wR', ?_, fun r1 l1 w1 => ⟨0, W, W + ((thinI F).length + 1 - (thinI R).length) * (W + 1), wR', w1, ?_, ?_, l1, by omega⟩⟩
        · have : ((thinI F).length + 2 - (thinI R).length) * (W + 1) ≤ ((thinI F).length + 1 - (thinI R).length) * (W + 1) + (W + 1) := by
            rw [← Nat.succ_mul]; exact Nat.mul_le_mul_right _ (by omega)
          omega
        · show W + 1 ≤ V0 * 1; omega
        · show _ ≤ V0 * 1; omega
      · obtain ⟨dl, hdl⟩ : ∃ dl, f0.length = r0.length + dl + 1 := ⟨f0.length - r0.length - 1, by omega⟩
        have k := Pe_step j dl
        have m1 := Pe_mono (k := j + 2 + dl) (j := R.length) (by omega)
        have m2 := Pe_mono (k := j + 1) (j := R.length) (by omega)
        have x1 : V0 * (Pe j + (dl + 2) * Pe (j + 1)) ≤ V0 * Pe (j + 2 + dl) := Nat.mul_le_mul_left _ k
        have x2 : V0 * Pe (j + 2 + dl) ≤ V0 * Pe R.length := Nat.mul_le_mul_left _ m1
        have x3 : V0 * Pe (j + 1) ≤ V0 * Pe R.length := Nat.mul_le_mul_left _ m2
        have x4 : (dl + 2) * (b + 1) ≤ (dl + 2) * (V0 * Pe (j + 1)) := Nat.mul_le_mul_left _ jb
        have x5 : V0 * (Pe j + (dl + 2) * Pe (j + 1)) = V0 * Pe j + (dl + 2) * (V0 * Pe (j + 1)) := by grind
        refine ⟨a, b, wa, wb, ?_, fun r1 l1 w1 => ⟨j + dl + 1, b, a + (f0.length + 1 - r0.length) * (b + 1), wb, w1, ?_, ?_, l1, by omega⟩⟩
        · rw [show f0.length + 2 - r0.length = (dl + 2) + 1 by omega, Nat.add_mul]
          omega
        · exact Nat.le_trans jb (Nat.mul_le_mul_left _ (Pe_mono (by omega)))
        · rw [show f0.length + 1 - r0.length = dl + 2 by omega, show j + dl + 1 + 1 = j + 2 + dl by omega]
          omega
    refine iteT ⟨fun σ' H' => ∃ p3 r1, σ' = [some (.ref pu), some (.ref pw), some (.ref p2), some (.ref p3)] ∧ Same H3 H' ∧ H' p3 = some (.tup (r1.map V.int)) ∧ okR r1 ∧ r1.length < r0.length ∧ (∀ G, Gc r0 r1 G → Gc f0 r0 G) ∧ Stg V0 R.length r0 r1, ?_, ?_⟩
    · rintro σ' H' ⟨p3, r1, rfl, s4, e3, ok1, l1, st1, sg⟩
      have lr16 : r0.length ≤ 16 := by
        rcases st with ⟨rfl, rfl⟩ | ⟨_, _, _, _, _, _, _, lt, _⟩
        · omega
        · omega
      refine ⟨r1.length, l1, p2, p3, r0, r1, rfl, rfl, s3.trans s4, s4 _ _ e2, e3, okr, ok1, lr16, fun G h => bk G ?_, .inr sg⟩
      rcases h with ⟨z, _⟩ | h
      · exact absurd z nr
      · exact .inr (st1 G h)
    refine ⟨.ref p2, rfl, .ref p1, rfl, .ref p2, rfl, .ref p1, .ref p2, f0, r0, a, b, rfl, ⟨p1, rfl, e1⟩, ⟨p2, rfl, e2⟩, okf, okr, nr, wa, wb, by omega, ?_, room, fun z r1 c q0 H4 s4 rz ok1 l1 c0 ee w1 => ?_⟩
    · rcases st with ⟨rfl, rfl⟩ | ⟨_, _, _, _, _, _, _, lt, _⟩
      · omega
      · omega
    obtain ⟨d1, d10, ed, okt, lt, nt'⟩ := thin_rel ok1
    refine ⟨z, r1, rfl, rz, ok1, ?_, fun z2 H5 s5 rz2 => ?_⟩
    · rcases st with ⟨rfl, rfl⟩ | ⟨_, _, _, _, _, _, _, lt, _⟩
      · omega
      · omega
    obtain ⟨p3, rfl, e3⟩ := rz2
    refine ⟨_, _, rfl, p3, thinI r1, rfl, s4.trans s5, e3, okt, by omega, fun G h => gc_step (q := q0) c0 d10 (fun x => by rw [ee x, ed x]) h, nxt _ (by omega) (Nat.lt_of_le_of_lt nt' w1)⟩
  rintro σ4 H4 ⟨p1, p2, f0, rfl, s4, e1, okf, lf, cm⟩
  exact ⟨.ref p1, rfl, .ref p1, f0, rfl, ⟨p1, rfl, e1⟩, okf, by omega, fun z H5 s5 rz => q z _ H5 (s4.trans s5) rz cm⟩
theorem scOver : FnScope ["_law_one", "_law_two", "_law_far", "_law_head", "_law_found", "_law_by", "_law_shift", "_law_each", "_law_at"] ["_law_one", "_law_two"] (defScope sOver) := ⟨rfl, rfl, rfl, by decide +kernel, rfl, by decide +kernel, by decide +kernel⟩
def spOver : Sp := fun vs H Q _ => ∃ (u v : V) (A B : List Int) (a b : Nat), vs = [u, v] ∧ Ro H u A ∧ Ro H v B ∧ okR A ∧ okR B ∧ B ≠ [] ∧ nm A < 2 ^ a ∧ nm B < 2 ^ b ∧ A.length ≤ 100 ∧ B.length ≤ 100 ∧ a + (A.length + 2) * (b + 1) ≤ 130000000 ∧
  (∀ z t H', Same H H' → Ro H' z t → Ov A B t → Q z H') ∧ ((¬ ∃ t, Ov A B t) → ∀ H', Same H H' → Q .non H')
theorem ok_over (D : Def K mg "_law_over" sOver ["_law_one", "_law_two"]) (nb : Nb mg) (ct : Cal P w K mg base "_law_trim" 1 ["_law_some"] spTrimI) (cp : Cal P w K mg base "_law_prime" 34 ["_law_line_here"] spPrime) : Cal P w K mg base "_law_over" 35 ["_law_one", "_law_two"] spOver := by
  refine D.ok scOver (fun vs H Q E h => ?_) (fun f cdv A out s H vs Q E hr h => ?_)
  · obtain ⟨u, v, F, R, a, b, rfl, _⟩ := h; rfl
  obtain ⟨u, v, F, R, a, b, rfl, ⟨pu, rfl, eu⟩, ⟨pw, rfl, ew⟩, okF, okR_, nR, wF, wR, lF, lR, hW, q1, q2⟩ := h
  refine ⟨_, Evl.pss_cut (ps_asg (pe_tup (pa_cons (pe_callTy (T := "list") call_list_of (by rfl) nb.lst (by decide +kernel) (pa_cons (pv 0) pa_nil)) (pa_cons (pe_ix (r := rIxT K) ix_tup (pv 1) (pe_un un_neg pe_int) (fun _ _ => rfl)) pa_nil))) (pg_tup rfl (pgs_cons (pg_name (i := 2) scOver.nd rfl (Or.inl rfl)) (pgs_cons (pg_name (i := 3) scOver.nd rfl (Or.inr rfl)) pgs_nil))))
    (Evl.pss_cut (ps_set (i := 4) scOver.nd rfl (Or.inl rfl) (pe_op op_rep (pe_lst (pa_cons pe_int pa_nil)) (pe_callB (id := "max") (call_max2 rfl) (by rfl) nb.max (by decide +kernel) (pa_cons pe_int (pa_cons (pe_op op_add (pe_op op_sub (pe_callB (id := "len") (r := rLn K) call_len_seq (by rfl) nb.len PySem.boot_len (pa_cons (pv 0) pa_nil)) (pe_callB (id := "len") (r := rLn K) call_len_seq (by rfl) nb.len PySem.boot_len (pa_cons (pv 1) pa_nil))) pe_int) pa_nil)))))
    (Evl.pss_cut (ps_while PassesOwn.never (pt_cmpR op_ge (pe_callB (id := "len") (r := rLn K) call_len_seq (by rfl) nb.len PySem.boot_len (pa_cons (pv 2) pa_nil)) (pe_callB (id := "len") (r := rLn K) call_len_seq (by rfl) nb.len PySem.boot_len (pa_cons (pv 1) pa_nil)) (nomark _))
      (Evl.pss_cut (ps_par (i := 5) (j := 6) rfl scOver.nd rfl rfl (by decide) rfl rfl (pa_cons (pe_ix (r := rIxL K) ix_list (pv 2) (pe_un un_neg pe_int) (fun _ _ => rfl)) (pa_cons (pe_op op_sub (pe_callB (id := "len") (r := rLn K) call_len_seq (by rfl) nb.len PySem.boot_len (pa_cons (pv 2) pa_nil)) (pe_callB (id := "len") (r := rLn K) call_len_seq (by rfl) nb.len PySem.boot_len (pa_cons (pv 1) pa_nil))) pa_nil)) rfl)
    (Evl.pss_cut (ps_setLc (i := 2) (own := [("_law_each", 7)]) (g := gName 7) (tt := tYes) rfl scOver.nd rfl rfl (by rfl) (pi_list (pv 2)) (blkOk_by (N := ["_law_one", "_law_two", "_law_far", "_law_head", "_law_found", "_law_by", "_law_shift", "_law_each", "_law_at"]) (sc := defScope sOver) (by decide +kernel)) (fun _ _ _ _ _ => pg_name (i := 7) scOver.nd rfl (Or.inl rfl)) (fun _ _ _ _ _ => pts_nil) (fun _ _ _ _ _ => (pe_op op_mulX (pv 3) (pv 7))))
    (Evl.pss_cut (ps_setLc (i := 4) (own := [("_law_each", 7)]) (g := gName 7) (tt := tYes) rfl scOver.nd rfl rfl (by rfl) (pi_list (pv 4)) (blkOk_by (N := ["_law_one", "_law_two", "_law_far", "_law_head", "_law_found", "_law_by", "_law_shift", "_law_each", "_law_at"]) (sc := defScope sOver) (by decide +kernel)) (fun _ _ _ _ _ => pg_name (i := 7) scOver.nd rfl (Or.inl rfl)) (fun _ _ _ _ _ => pts_nil) (fun _ _ _ _ _ => (pe_op op_mulX (pv 3) (pv 7))))
    (Evl.pss_cut (ps_asg (pv 5) (pg_sub (pv 4) (pv 6) set_list))
    (Evl.pss_cut (ps_for PassesOwn.never rfl (pi_enumT (by rfl) nb.enm (pv 1)) (pg_tup rfl (pgs_cons (pg_name (i := 8) scOver.nd rfl (Or.inl rfl)) (pgs_cons (pg_name (i := 7) scOver.nd rfl (Or.inl rfl)) pgs_nil)))
      (pss_one (ps_asg (pe_op op_sub (pe_ix (r := rIxL K) ix_list (pv 2) (pe_op op_add (pv 6) (pv 8)) (fun _ _ => rfl)) (pe_op op_mulX (pv 5) (pv 7))) (pg_sub (pv 2) (pe_op op_add (pv 6) (pv 8)) set_list))))
    (pss_one (ps_expr (pe_bm0 PySem.F.plainAttrs_list PySem.F.slot_list_pop PySem.F.type_list_pop mt_pop (pv 2))))))))))
    (pss_one (ps_ret (pe_ifExp (pt_val (pe_callB (id := "any") (cr_any rfl) (by rfl) nb.any (by decide +kernel) (pa_cons (pe_lc (own := [("_law_each", 7)]) (g := gName 7) (tt := tYes) rfl scOver.nd (pi_list (pv 2)) (blkOk_by (N := ["_law_one", "_law_two", "_law_far", "_law_head", "_law_found", "_law_by", "_law_shift", "_law_each", "_law_at"]) (sc := defScope sOver) (by decide +kernel)) (fun _ _ _ _ _ => pg_name (i := 7) scOver.nd rfl (Or.inl rfl)) (fun _ _ _ _ _ => pts_nil) (fun _ _ _ _ _ => (pe_cmpR op_ne (pv 7) pe_int (nomark _)))) pa_nil))) pe_non (pe_cal cp hr (by omega) (by rfl) (pa_cons (pe_cal ct hr (by omega) (by rfl) (pa_cons (pv 4) pa_nil)) pa_nil))))))), ?_⟩
  walk_at "rd"
  have lR0 := List.length_pos_iff.mpr nR
  have h0 : hd R ≠ 0 := okR_last okR_ nR
  have hb : Wd b (hd R) := (nm_wd wR).g _
  generalize hh : hd R = h at *
  generalize hn : F.length + 1 - R.length = n
  have at1 : atI (R.map V.int) (-1) = some (.int h) := by rw [at_last lR0, hh]
  refine ⟨fun σ H' => ∃ L, σ = [some (.ref pu), some (.ref pw), some (.ref L), some (.int h), none, none, none, none, none] ∧ Same H H' ∧ H L = none ∧ H' L = some (.lst (F.map V.int)), ?_, ?_⟩
  · refine ⟨.ref pu, rfl, pu, _, rfl, .inr (SqT.of eu), fun L nL => ?_⟩
    have s0 := same_new (o := .lst (F.map V.int)) nL
    exact ⟨.ref pw, rfl, 1, rfl, pw, _, _, _, rfl, rfl, SqT.of (s0 _ _ ew), at1, sz (by simp), fun p np => ⟨p, _, rfl, SqT.of upd_same, rfl, _, _, rfl, _, _, rfl, rfl, L, rfl, s0.trans (same_new np), nL, by rw [upd_ne (fun z => by rw [← z, upd_same] at np; cases np)]; exact upd_same⟩⟩
  rintro σ1 H1 ⟨L, rfl, s1, nL, eL⟩
  refine ⟨fun σ H' => ∃ M, σ = [some (.ref pu), some (.ref pw), some (.ref L), some (.int h), some (.ref M), none, none, none, none] ∧ Same H H' ∧ H M = none ∧ M ≠ L ∧ H' L = some (.lst (F.map V.int)) ∧ H' M = some (.lst ((List.replicate n (0 : Int)).map V.int)), ?_, ?_⟩
  · refine ⟨sz (by simp), fun L0 n0 => ?_⟩
    have s2 := same_new (o := .lst [.int 0]) n0
    refine ⟨.ref pu, rfl, pu, _, rfl, .inr (SqT.of (s2 _ _ (s1 _ _ eu))), .ref pw, rfl, pw, _, rfl, .inr (SqT.of (s2 _ _ (s1 _ _ ew))), _, _, rfl, rfl, _, _, rfl, rfl, _, _, rfl, L0, _, _, rfl, rfl, upd_same, ?_⟩
    have eI : (if ((F.map V.int).length : Int) - ((R.map V.int).length : Int) + 1 > 0 then ((F.map V.int).length : Int) - ((R.map V.int).length : Int) + 1 else 0) = (n : Int) := by
      rw [List.length_map, List.length_map]
      split <;> omega
    rw [eI]
    have szn := sz (n := n) (by omega)
    refine ⟨by omega, by omega, by show 1 * _ ≤ _; rw [Nat.one_mul]; omega, fun M nM => ⟨M, rfl, ?_, ?_, ?_, ?_, ?_⟩⟩
    · exact s1.trans (s2.trans (same_new nM))
    · exact s1.free (s2.free nM)
    · exact fun z => by rw [z, s2 _ _ eL] at nM; cases nM
    · exact (s2.trans (same_new nM)) _ _ eL
    · rw [upd_same, Int.toNat_natCast, flat_one, List.map_replicate]
  rintro σ2 H2 ⟨M, rfl, s2, nM, ML, eL, eM⟩
  -- the loop
  let Sz : Nat → Nat := fun k => a + (F.length - k) * (b + 1)
  have SzB : ∀ k, Sz k + 2 * (b + 1) ≤ 130000000 := fun k => by
    have : (F.length - k) * (b + 1) + 2 * (b + 1) ≤ (F.length + 2) * (b + 1) := by rw [← Nat.add_mul]; exact Nat.mul_le_mul_right _ (by omega)
    show a + (F.length - k) * (b + 1) + 2 * (b + 1) ≤ _
    omega
  refine ⟨fun σ H' => ∃ (L' M' : Addr) (l fl : List Int) (x5 x6 x7 x8 : Option V) (c : Int), σ = [some (.ref pu), some (.ref pw), some (.ref L'), some (.int h), some (.ref M'), x5, x6, x7, x8] ∧ Same H H' ∧ H' L' = some (.lst (l.map V.int)) ∧ H' M' = some (.lst (fl.map V.int)) ∧ l.length < R.length ∧ c ≠ 0 ∧ (∀ x, c * ev x F = ev x fl * ev x R + ev x l) ∧ fl.length ≤ 100, ?_, ?_⟩
  · refine ⟨fun m σ H' => ∃ (L' M' : Addr) (l fl : List Int) (x5 x6 x7 x8 : Option V) (c : Int), m = l.length ∧ σ = [some (.ref pu), some (.ref pw), some (.ref L'), some (.int h), some (.ref M'), x5, x6, x7, x8] ∧ Same H H' ∧ H L' = none ∧ H M' = none ∧ M' ≠ L' ∧ H' L' = some (.lst (l.map V.int)) ∧ H' M' = some (.lst (fl.map V.int)) ∧ c ≠ 0 ∧ (∀ x, c * ev x F = ev x fl * ev x R + ev x l) ∧ l.length ≤ F.length ∧ nm l < 2 ^ Sz l.length ∧ fl.length = n ∧ (∀ i, i + R.length ≤ l.length → g fl i = 0) ∧ WdA (Sz l.length) fl,
      ⟨F.length, L, M, F, List.replicate n 0, none, none, none, none, 1, rfl, rfl, s2, nL, nM, ML, eL, eM, by decide, fun x => ?_, Nat.le_refl _, by show nm F < 2 ^ (a + (F.length - F.length) * (b + 1)); rw [Nat.sub_self, Nat.zero_mul]; exact wF, List.length_replicate, fun i _ => ?_, fun c hc => ?_⟩, ?_⟩
    · have : ev x (List.replicate n (0 : Int)) = ev x [] := ev_ext x fun k => by unfold g; rw [List.getD_eq_getElem?_getD, List.getElem?_replicate]; split <;> rfl
      rw [this, ev_nil]; omega
    · unfold g; rw [List.getD_eq_getElem?_getD, List.getElem?_replicate]; split <;> rfl
    · rw [List.eq_of_mem_replicate hc]; exact Wd.zero _
    rintro m σ H3 ⟨L', M', l, fl, x5, x6, x7, x8, c, rfl, rfl, s3, nL', nM', ML', eL', eM', c0, ee, ll, wl, lfl, zfl, wfl⟩
    refine ⟨.ref L', rfl, L', _, rfl, .inl (SqL.of eL'), .ref pw, rfl, pw, _, rfl, .inr (SqT.of (s3 _ _ ew)), _, _, rfl, rfl, _, rfl, ite2 (fun t => ?_) (fun t => ?_)⟩
    rotate_left
    · have t : ¬ ((R.length : Int) ≤ (l.length : Int)) := fun z => t (decide_eq_true (by rw [List.length_map, List.length_map]; exact z))
      exact ⟨L', M', l, fl, x5, x6, x7, x8, c, rfl, s3, eL', eM', by omega, c0, ee, by omega⟩
    have t := of_decide_eq_true t
    rw [List.length_map, List.length_map] at t
    have ll0 : 1 ≤ l.length := by omega
    have SzS : Sz (l.length - 1) = Sz l.length + b + 1 := by
      show a + (F.length - (l.length - 1)) * (b + 1) = a + (F.length - l.length) * (b + 1) + b + 1
      rw [show F.length - (l.length - 1) = F.length - l.length + 1 by omega, Nat.add_mul]; omega
    have rA := SzB l.length
    generalize hA : Sz l.length = Aa at *
    have wla := nm_wd wl
    generalize hla : hd l = la
    have wla0 : Wd Aa la := by rw [← hla]; exact wla.g _
    generalize hsf : l.length - R.length = sf
    generalize hl2 : addR (sclR h l) (sclR (-la) (shl sf R)) = l2
    have len2 : l2.length = l.length := by
      rw [← hl2, ad_len]; unfold sclR; rw [List.length_map, List.length_map, shl_len]; omega
    have g2 : ∀ i, g l2 i = h * g l i - (if sf ≤ i then la * g R (i - sf) else 0) := fun i => by
      rw [← hl2, g_add, g_scl, g_scl, shl_g]
      split <;> grind
    have top0 : g l2 (l2.length - 1) = 0 := by
      rw [g2, len2, if_pos (by omega), show l.length - 1 - sf = R.length - 1 by omega]
      have e1 : g l (l.length - 1) = la := hla
      have e2 : g R (R.length - 1) = h := hh
      rw [e1, e2]; grind
    have ev2 : ∀ x, ev x l2.dropLast = h * ev x l - la * (x ^ sf * ev x R) := fun x => by
      rw [ev_dropLast x l2 top0, ← hl2, ev_add, ev_scl, ev_scl, shl_ev]; grind
    have nm2 : nm l2.dropLast < 2 ^ (Aa + b + 1) := by
      refine Nat.lt_of_le_of_lt (nm_dropLast _) ?_
      rw [← hl2]
      refine Nat.lt_of_le_of_lt (nm_add _ _) ?_
      rw [nm_scl, nm_scl, shl_nm, Int.natAbs_neg]
      have a1 : h.natAbs * nm l < 2 ^ b * 2 ^ Aa := Nat.lt_of_le_of_lt (Nat.mul_le_mul_left _ (Nat.le_of_lt wl)) (Nat.mul_lt_mul_of_pos_right hb (Nat.pow_pos (by decide)))
      have a2 : la.natAbs * nm R < 2 ^ Aa * 2 ^ b := Nat.lt_of_le_of_lt (Nat.mul_le_mul_left _ (Nat.le_of_lt wR)) (Nat.mul_lt_mul_of_pos_right wla0 (Nat.pow_pos (by decide)))
      rw [← Nat.pow_add] at a1 a2
      rw [Nat.pow_succ]
      rw [Nat.add_comm b Aa] at a1
      omega
    have lf0 : sf < fl.length := by omega
    have gf0 : g fl sf = 0 := zfl sf (by omega)
    refine ⟨fun σ' H' => ∃ (L2 M2 : Addr) (x7 x8 : Option V), σ' = [some (.ref pu), some (.ref pw), some (.ref L2), some (.int h), some (.ref M2), some (.int la), some (.int (sf : Int)), x7, x8] ∧ Same H H' ∧ H L2 = none ∧ H M2 = none ∧ M2 ≠ L2 ∧ H' L2 = some (.lst (l2.dropLast.map V.int)) ∧ H' M2 = some (.lst (((sclR h fl).set sf la).map V.int)), ?_, ?_⟩
    · rintro σ' H' ⟨L2, M2, x7, x8, rfl, b1, b2, b3, b4, b5, b6⟩
      have ld : l2.dropLast.length = l.length - 1 := by rw [List.length_dropLast, len2]
      have lsc : (sclR h fl).length = fl.length := by unfold sclR; rw [List.length_map]
      have z0 : g (sclR h fl) sf = 0 := by rw [g_scl, gf0, Int.mul_zero]
      refine ⟨l2.dropLast.length, by omega, L2, M2, l2.dropLast, (sclR h fl).set sf la, _, _, x7, x8, h * c, rfl, rfl, b1, b2, b3, b4, b5, b6, Int.mul_ne_zero h0 c0, fun x => ?_, by omega, ?_, by rw [List.length_set, lsc]; exact lfl, fun i hi => ?_, ?_⟩
      · have := ee x
        rw [ev2, set_ev (by omega) z0, ev_scl, ev_mono]; grind
      · rw [ld, SzS]; exact nm2
      · rw [g_set (by omega), if_neg (by omega), g_scl, zfl i (by omega), Int.mul_zero]
      · rw [ld, SzS]
        intro y hy
        rcases List.mem_or_eq_of_mem_set hy with z | z
        · obtain ⟨y', hy', rfl⟩ := List.mem_map.mp z
          exact (hb.mul (wfl y' hy')).up (by omega)
        · rw [z]; exact wla0.up (by omega)
    refine ⟨fun σ H' => σ = [some (.ref pu), some (.ref pw), some (.ref L'), some (.int h), some (.ref M'), some (.int la), some (.int (sf : Int)), x7, x8] ∧ H' = H3, ?_, ?_⟩
    · refine ⟨.ref L', rfl, 1, rfl, L', _, -1, .int la, rfl, rfl, SqL.of eL', by rw [at_last ll0, hla], .ref L', rfl, L', _, rfl, .inl (SqL.of eL'), .ref pw, rfl, pw, _, rfl, .inr (SqT.of (s3 _ _ ew)), _, _, rfl, rfl, _, _, rfl, ?_, rfl⟩
      have : ((l.map V.int).length : Int) - ((R.map V.int).length : Int) = (sf : Int) := by rw [List.length_map, List.length_map]; omega
      show [_, _, _, _, _, some (V.int la), some (V.int (((l.map V.int).length : Int) - ((R.map V.int).length : Int))), _, _] = _
      rw [this]
    rintro σ3 H4 ⟨rfl, rfl⟩
    refine ⟨fun σ H' => ∃ L2, σ = [some (.ref pu), some (.ref pw), some (.ref L2), some (.int h), some (.ref M'), some (.int la), some (.int (sf : Int)), x7, x8] ∧ Same H H' ∧ H L2 = none ∧ M' ≠ L2 ∧ H' L2 = some (.lst ((sclR h l).map V.int)) ∧ H' M' = some (.lst (fl.map V.int)), ?_, ?_⟩
    · refine lc_relL (S := fun _ v k => v = V.int k) (R := fun _ v k => v = V.int k) (g := fun x => h * x) (rs := l) (p := L') (xs := l.map V.int) (stable_eq _) (stable_eq _) rfl eL' (RelA.of_map _) (by omega) (fun x => rfl) (fun x d H5 hd s5 rx Z hZ => ?_) fun N ys H5 s5 nN eN ry => ?_
      · subst rx
        exact ⟨.int h, rfl, .int d, rfl, _, _, rfl, rfl, hb.cx (wla d hd) (by omega), hZ _ _ (Same.refl _) rfl⟩
      · have ey := RelA.eq_map ry
        exact ⟨N, rfl, s3.trans s5, s3.free nN, (fun z => by rw [← z, eM'] at nN; cases nN), by rw [eN, ey]; rfl, s5 _ _ eM'⟩
    rintro σ4 H5 ⟨L2, rfl, s5, nL2, ML2, eL2, eM2⟩
    refine ⟨fun σ H' => ∃ M2, σ = [some (.ref pu), some (.ref pw), some (.ref L2), some (.int h), some (.ref M2), some (.int la), some (.int (sf : Int)), x7, x8] ∧ Same H H' ∧ H M2 = none ∧ M2 ≠ L2 ∧ H' L2 = some (.lst ((sclR h l).map V.int)) ∧ H' M2 = some (.lst ((sclR h fl).map V.int)), ?_, ?_⟩
    · refine lc_relL (S := fun _ v k => v = V.int k) (R := fun _ v k => v = V.int k) (g := fun x => h * x) (rs := fl) (p := M') (xs := fl.map V.int) (stable_eq _) (stable_eq _) rfl eM2 (RelA.of_map _) (by omega) (fun x => rfl) (fun x d H6 hd s6 rx Z hZ => ?_) fun N ys H6 s6 nN eN ry => ?_
      · subst rx
        exact ⟨.int h, rfl, .int d, rfl, _, _, rfl, rfl, hb.cx (wfl d hd) (by omega), hZ _ _ (Same.refl _) rfl⟩
      · have ey := RelA.eq_map ry
        exact ⟨N, rfl, s5.trans s6, s5.free nN, (fun z => by rw [z, eL2] at nN; cases nN), s6 _ _ eL2, by rw [eN, ey]; rfl⟩
    rintro σ5 H6 ⟨M2, rfl, s6, nM2, ML2, eL2, eM2⟩
    have lsc : (sclR h fl).length = fl.length := by unfold sclR; rw [List.length_map]
    refine ⟨fun σ H' => σ = [some (.ref pu), some (.ref pw), some (.ref L2), some (.int h), some (.ref M2), some (.int la), some (.int (sf : Int)), x7, x8] ∧ Same H H' ∧ H' L2 = some (.lst ((sclR h l).map V.int)) ∧ H' M2 = some (.lst (((sclR h fl).set sf la).map V.int)), ?_, ?_⟩
    · refine ⟨_, rfl, _, rfl, _, rfl, M2, _, _, sf, rfl, rfl, eM2, ixN_nat (by rw [List.length_map]; omega), rfl, same_upd s6 nM2, ?_, ?_⟩
      · rw [upd_ne ML2.symm]; exact eL2
      · rw [upd_same, List.map_set]
    rintro σ6 H7 ⟨rfl, s7, eL7, eM7⟩
    refine ⟨fun σ H' => ∃ x7 x8, σ = [some (.ref pu), some (.ref pw), some (.ref L2), some (.int h), some (.ref M2), some (.int la), some (.int (sf : Int)), x7, x8] ∧ Same H H' ∧ H' L2 = some (.lst (l2.map V.int)) ∧ H' M2 = some (.lst (((sclR h fl).set sf la).map V.int)), ?_, ?_⟩
    · refine ⟨.ref pw, rfl, pw, R.map V.int, rfl, SqT.of (s7 _ _ ew), for_enumT (xs := R.map V.int) (fun j σ H' => ∃ (x7 x8 : Option V) (l' : List Int), σ = [some (.ref pu), some (.ref pw), some (.ref L2), some (.int h), some (.ref M2), some (.int la), some (.int (sf : Int)), x7, x8] ∧ Same H H' ∧ H' L2 = some (.lst (l'.map V.int)) ∧ H' M2 = some (.lst (((sclR h fl).set sf la).map V.int)) ∧ l'.length = l.length ∧ ∀ i, g l' i = h * g l i - (if sf ≤ i ∧ i - sf < j then la * g R (i - sf) else 0)) ?_ ?_ ?_ ?_⟩
      · exact ⟨x7, x8, sclR h l, rfl, s7, eL7, eM7, by unfold sclR; rw [List.length_map], fun i => by rw [g_scl, if_neg (by omega)]; omega⟩
      · rintro j σ H' hj ⟨x7, x8, l', rfl, s5, _⟩
        exact SqT.of (s5 _ _ ew)
      · rintro j x p σ H8 hx ⟨x7, x8, l', rfl, s8, eL8, eM8, ll8, gl8⟩ np
        have hj : j < R.length := by have := (List.getElem?_eq_some_iff.mp hx).1; rwa [List.length_map] at this
        rw [at_g hj] at hx
        injection hx with hx
        subst hx
        have s9 := s8.trans (same_new (o := .tup [.int (j : Nat), .int (g R j)]) np)
        have n1 : p ≠ L2 := fun z => by rw [z, eL8] at np; cases np
        have n2 : p ≠ M2 := fun z => by rw [z, eM8] at np; cases np
        have eL9 : upd H8 p (.tup [.int (j : Nat), .int (g R j)]) L2 = some (.lst (l'.map V.int)) := by rw [upd_ne n1.symm]; exact eL8
        have eM9 : upd H8 p (.tup [.int (j : Nat), .int (g R j)]) M2 = some (.lst (((sclR h fl).set sf la).map V.int)) := by rw [upd_ne n2.symm]; exact eM8
        refine ⟨p, _, rfl, SqT.of upd_same, rfl, _, _, rfl, _, _, rfl, rfl, ?_⟩
        generalize upd H8 p (.tup [.int (j : Nat), .int (g R j)]) = H9 at s9 eL9 eM9 ⊢
        have ij : (sf : Int) + (j : Int) = ((sf + j : Nat) : Int) := by omega
        have gl : (l'.map V.int)[sf + j]? = some (.int (g l' (sf + j))) := at_g (by omega)
        refine ⟨.ref L2, rfl, .int (sf : Int), rfl, .int (j : Int), rfl, _, _, rfl, rfl, ?_⟩
        walk_at "rd"
        rw [ij]
        refine ⟨L2, _, _, _, rfl, rfl, SqL.of eL9, atI_nat gl, .int la, rfl, .int (g R j), rfl, _, _, rfl, rfl, wla0.cx ((nm_wd wR).g j) (by omega), _, _, rfl, rfl, .ref L2, rfl, .int (sf : Int), rfl, .int (j : Int), rfl, _, _, rfl, rfl, ?_⟩
        walk_at "rd"
        rw [ij]
        refine ⟨L2, _, _, sf + j, rfl, rfl, eL9, ixN_nat (by rw [List.length_map]; omega), _, _, l'.set (sf + j) (g l' (sf + j) - la * g R j), rfl, same_upd s9 nL2, by rw [upd_same, List.map_set], by rw [upd_ne ML2]; exact eM9, by rw [List.length_set]; exact ll8, fun i => ?_⟩
        rw [g_set (by omega), gl8, gl8]
        by_cases e : i = sf + j
        · subst e
          rw [if_pos rfl, if_neg (by omega), if_pos (by omega), show sf + j - sf = j by omega]
          omega
        · rw [if_neg e]
          by_cases e2 : sf ≤ i ∧ i - sf < j
          · rw [if_pos e2, if_pos (by omega)]
          · rw [if_neg e2, if_neg (by omega)]
      · rintro σ H8 ⟨x7, x8, l', rfl, s8, eL8, eM8, ll8, gl8⟩
        refine ⟨x7, x8, rfl, s8, ?_, eM8⟩
        rw [eL8, row_eq (r := l') (s := l2) (by omega) fun i => ?_]
        rw [gl8, g2, List.length_map]
        congr 1
        by_cases e : sf ≤ i
        · rw [if_pos e]
          by_cases e2 : i - sf < R.length
          · rw [if_pos ⟨e, e2⟩]
          · rw [if_neg (fun z => e2 z.2), g_none (r := R) (by omega), Int.mul_zero]
        · rw [if_neg e, if_neg (fun z => e z.1)]
    rintro σ7 H8 ⟨x7, x8, rfl, s8, eL8, eM8⟩
    have l20 : 0 < l2.length := by omega
    refine ⟨.ref L2, rfl, .inl ⟨rfl, _, SqL.of eL8⟩, L2, l2.map V.int, .int (g l2 (l2.length - 1)), rfl, rfl, eL8, ?_, L2, M2, x7, x8, rfl, same_upd s8 nL2, nL2, nM2, ML2, ?_, ?_⟩
    · rw [List.length_map]
      exact at_g (by omega)
    · rw [upd_same, List.map_dropLast]
    · rw [upd_ne ML2]; exact eM8
  rintro σ6 H6 ⟨L', M', l, fl, x5, x6, x7, x8, c, rfl, s6, eL', eM', lR', c0, ee, lfl⟩
  refine lc_relL (S := fun _ v k => v = V.int k) (R := fun _ v k => v = V.bl k) (g := fun x => !decide (x = 0)) (rs := l) (p := L') (xs := l.map V.int) (stable_eq _) (stable_eq _) rfl eL' (RelA.of_map _) (by omega) (fun x => wipeJ _ _ _) (fun x d H7 hd s7 rx Z hZ => ?_) fun N ys H7 s7 nN eN ry => ?_
  · subst rx
    refine ⟨.int d, rfl, rfl, hZ _ _ (Same.refl _) ?_⟩
    show V.bl (!decide (V.int d = V.int 0)) = V.bl (!decide (d = 0))
    by_cases z : d = 0
    · subst z; rfl
    · rw [decide_eq_false z, decide_eq_false (fun t => z (by injection t))]
  · have ey := RelA.eq_map ry
    refine ⟨N, l.map fun x => !decide (x = 0), rfl, SqL.of (by rw [eN, ey]), _, rfl, ?_⟩
    cases ha : (l.map fun x => !decide (x = 0)).any id with
    | true =>
      refine iteT (q2 (ov_none (f := fl) (r := trimI l) okR_ nR c0 (okR_trim _) (fun z => ?_) (Nat.lt_of_le_of_lt (trimBy_len _ _) lR') fun x => by rw [ev_trim]; exact ee x) _ (s6.trans s7))
      have : (l.map fun x => !decide (x = 0)).any id = false := by
        rw [List.any_eq_false]
        intro y hy
        obtain ⟨d, hd, rfl⟩ := List.mem_map.mp hy
        have := trim_nil_of z d hd
        simp [this]
      rw [this] at ha; cases ha
    | false =>
      rw [List.any_eq_false] at ha
      have z : ∀ d ∈ l, d = 0 := fun d hd => by
        have := ha _ (List.mem_map.mpr ⟨d, hd, rfl⟩)
        simpa using this
      have evl : ∀ x, ev x l = 0 := fun x => by
        have : ev x l = ev x [] := ev_ext x fun k => by
          rcases Nat.lt_or_ge k l.length with t | t
          · rw [z _ (g_memx t)]; rfl
          · rw [g_none t]; rfl
        rw [this]; rfl
      refine iteF ⟨.ref M', rfl, M', fl, rfl, .inl (s7 _ _ eM'), by omega, fun z1 H8 s8 r8 => ⟨z1, trimI fl, rfl, r8, okR_trim _, Nat.le_trans (trimBy_len _ _) (by omega), fun z2 H9 s9 r9 => ?_⟩⟩
      exact q1 z2 _ H9 (s6.trans (s7.trans (s8.trans s9))) r9 (ov_some okR_ nR c0 okF (okR_trim _) fun x => by rw [ev_trim, ee x, evl]; omega)
end
end K03

set_option Elab.async false
set_option linter.all false
set_option maxRecDepth 100000
set_option maxHeartbeats 8000000
local macro_rules | `(tactic| walk_at "rd") => `(tactic| dsimp only [Evl.tCut, L2.tBits, L2.tOrT, L2.tAndT, L2.tSeq, L2.tNext, L2.tRet, L2.tRetN, L2.tAsg, L2.gName, L2.tIfS, L2.tDrop, L2.tCons, L2.tNil, L2.tC, L2.tVar, L2.tCB, L2.tAndV, L2.tOrV, L2.tNotV, L2.tB, L2.tTest, L2.tOp, L2.tUn, L2.tNot, L2.tAnd, L2.tOr, L2.tIf, L2.tCall, L2.tTup, L2.tLst, L2.tNotT, L2.tYes, L2.gTup, L2.gCons, L2.gNil, L2.gSub, L2.tBM0, L2.tBM, L2.tWhile, L2.tFor, L2.iRng1, L2.iRng2, L2.tAugS, Tw.iEnumT, L2.tCKw, L2.tAug, L2.ipI, RT.iRevA, L2.iRevR, L2.tPar, L2.tPar3, L2.tSl, L2.tNoPart, L2.tPart, Tw.tRevT, L2.rAdd, L2.rSub, L2.tBits])
namespace K03
open PySem PySem.Spec PyProof.Rows L2 Tw
theorem prod_eq {r s t : List Int} (ok : okR t) (h : ∀ k, g t k = cv (g r) (g s) k) : t = trimI (mulR r s) := row_ext ok (okR_trim _) fun k => by rw [h, g_trim, g_mul]
theorem prod_ev {r s t : List Int} (ok : okR t) (h : ∀ k, g t k = cv (g r) (g s) k) (x : Int) : ev x t = ev x r * ev x s := by rw [prod_eq ok h, ev_trim, ev_mul]
theorem prod_nm {r s t : List Int} (ok : okR t) (h : ∀ k, g t k = cv (g r) (g s) k) : nm t ≤ nm r * nm s := by rw [prod_eq ok h]; exact Nat.le_trans (nm_trim _) (nm_mul _ _)
theorem prod_len {r s t : List Int} (ok : okR t) (h : ∀ k, g t k = cv (g r) (g s) k) : t.length ≤ r.length + s.length - 1 := okR_len ok fun j hj => by rw [h, ← g_mul]; exact mul_above (by omega)
theorem sum_nm {r s t : List Int} (ok : okR t) (h : ∀ k, g t k = g r k + g s k) : nm t ≤ nm r + nm s := by
  have : t = trimI (addR r s) := row_ext ok (okR_trim _) fun k => by rw [h, g_trim, g_add]
  rw [this]; exact Nat.le_trans (nm_trim _) (nm_add _ _)
theorem sum_len {r s t : List Int} (ok : okR t) (h : ∀ k, g t k = g r k + g s k) : t.length ≤ max r.length s.length := okR_len ok fun j hj => by rw [h, g_none (by omega), g_none (by omega)]; rfl
theorem scl_nm {r t : List Int} {c : Int} (ok : okR t) (h : ∀ k, g t k = c * g r k) : nm t ≤ c.natAbs * nm r := by
  have : t = trimI (sclR c r) := row_ext ok (okR_trim _) fun k => by rw [h, g_trim, g_scl]
  rw [this, ← nm_scl]; exact nm_trim _
theorem scl_ev {r t : List Int} {c : Int} (h : ∀ k, g t k = c * g r k) (x : Int) : ev x t = c * ev x r := by rw [← ev_scl]; exact ev_ext x fun k => by rw [h, g_scl]
theorem scl_len {r t : List Int} {c : Int} (ok : okR t) (h : ∀ k, g t k = c * g r k) : t.length ≤ r.length := okR_len ok fun j hj => by rw [h, g_none hj, Int.mul_zero]
theorem cm_of {a b : Nat} {r s : List Int} (hr : nm r < 2 ^ a) (hs : nm s < 2 ^ b) (l : a + b ≤ 134217728) : CM r s := fun c hc d hd => (nm_wd hr c hc).cx (nm_wd hs d hd) l
theorem slo_len_eq {r : List Int} (ok : okR r) (l : 2 ≤ r.length) : (slo r).length = r.length - 1 := by
  have up := slo_len r
  rcases Nat.lt_or_ge (slo r).length (r.length - 1) with c | c
  · exfalso
    have e := slo_g r (r.length - 2)
    rw [g_none (by omega), show r.length - 2 + 1 = r.length - 1 by omega] at e
    have := okR_last ok (by intro z; rw [z] at l; simp at l)
    rcases Int.mul_eq_zero.mp e.symm with q | q
    · omega
    · exact this q
  · omega
def spPlainL : Sp := fun vs H Q _ => ∃ (u : V) (F : List Int) (W : Nat), vs = [u] ∧ Ro H u F ∧ okR F ∧ F ≠ [] ∧ nm F < 2 ^ W ∧ W ≤ 7000 ∧ F.length ≤ 16 ∧ 6 * ((W + 9) * Pe (F.length - 1)) ≤ 134000000 ∧ ∀ z t H', Same H H' → Ro H' z t → Pl F t → Q z H'
def spPow : Sp := fun vs H Q _ => ∃ (u : V) (r : List Int) (n : Nat), vs = [u, .int (n : Int)] ∧ Ro H u r ∧ okR r ∧ r.length ≤ 2 ∧ nm r ≤ 1000003 ∧ n ≤ 4 ∧ ∀ z t H', Same H H' → Ro H' z t → okR t → t.length ≤ n + 1 → nm t ≤ 1000003 ^ n → Q z H'
def spRoot : Sp := fun vs H Q _ => ∃ (x f : Int), vs = [.int x, .int f] ∧ 2 ≤ x ∧ x ≤ 40 ∧ (f = 2 ∨ f = 3) ∧ ∀ (r : Int) H', Same H H' → 1 ≤ r → r ≤ 64 → Q (.int r) H'
/-- a drawn number -/
def Own (H : Hp) (v : V) : Prop := ∃ (p q : Addr) (x b : Int) (ss : List Int), v = .ref p ∧ H p = some (.tup [.int x, .ref q, .int b]) ∧ H q = some (.tup (ss.map V.int)) ∧ 1 ≤ ss.length ∧ ss.length ≤ 4 ∧ x.natAbs ≤ 40 ∧ (g ss 0).natAbs ≤ 1000000 ∧ (g ss 1).natAbs ≤ 3 ∧ 1 ≤ b ∧ b ≤ 3
def spLeast : Sp := fun vs H Q _ => ∃ v, vs = [v] ∧ Own H v ∧ ∀ z t H', Same H H' → Ro H' z t → okR t → t.length ≤ 5 → nm t < 2 ^ 80 → Q z H'
section
variable {P : Program} {w : World} {K : PySem.W.Frag} {mg : Str → Option Value} {base : Heap}
theorem scPlain : FnScope ["_law_line_here"] ["_law_line_here"] (defScope sPlain) := ⟨rfl, rfl, rfl, by decide +kernel, rfl, by decide +kernel, by decide +kernel⟩
theorem ok_plain (D : Def K mg "_law_plain" sPlain ["_law_line_here"]) (co : Cal P w K mg base "_law_over" 35 ["_law_one", "_law_two"] spOver) (cs : Cal P w K mg base "_law_shared" 35 ["_law_one", "_law_two"] spLShared) (cl : Cal P w K mg base "_law_slope" 1 ["_law_line_here"] spSlope) : Cal P w K mg base "_law_plain" 36 ["_law_line_here"] spPlainL := by
  refine D.ok scPlain (fun vs H Q E h => ?_) (fun f cdv A out s H vs Q E hr h => ?_)
  · obtain ⟨u, F, W, rfl, _⟩ := h; rfl
  obtain ⟨u, F, W, rfl, hu, okF, nF, wF, hW, lF, rm, q⟩ := h
  refine ⟨_, pss_one (ps_ret (pe_cal co hr (by omega) (by rfl) (pa_cons (pv 0) (pa_cons (pe_cal cs hr (by omega) (by rfl) (pa_cons (pv 0) (pa_cons (pe_cal cl hr (by omega) (by rfl) (pa_cons (pv 0) pa_nil)) pa_nil))) pa_nil)))), ?_⟩
  walk_at "rd"
  have l0 := List.length_pos_iff.mpr nF
  refine ⟨u, rfl, u, rfl, u, rfl, u, F, rfl, hu, okF, by omega, fun z t H1 s1 rz okt gt => ?_⟩
  have et := slo_eq okt gt
  subst et
  have wS : nm (slo F) < 2 ^ (W + 8) := by
    have := slo_nm (r := F) lF
    rw [Nat.pow_add]; omega
  have wF8 : nm F < 2 ^ (W + 8) := Nat.lt_of_lt_of_le wF (Nat.pow_le_pow_right (by decide) (by omega))
  have room : 2 * ((F.length - (slo F).length + 2) * (W + 8 + 1) * Pe (slo F).length) ≤ 134000000 := by
    have k : F.length - (slo F).length + 2 ≤ 3 := by
      rcases Nat.lt_or_ge F.length 2 with c | c
      · omega
      · have := slo_len_eq okF c; omega
    have m := Pe_mono (slo_len F)
    have : (F.length - (slo F).length + 2) * (W + 8 + 1) * Pe (slo F).length ≤ 3 * (W + 8 + 1) * Pe (F.length - 1) := Nat.mul_le_mul (Nat.mul_le_mul_right _ k) m
    have e : 6 * ((W + 9) * Pe (F.length - 1)) = 2 * (3 * (W + 8 + 1) * Pe (F.length - 1)) := by grind
    omega
  refine ⟨u, z, F, slo F, W + 8, rfl, hu.kt (Kt.of s1), rz, okF, okt, wF8, wS, lF, by have := slo_len F; omega, room, fun z2 G H2 s2 r2 cm => ?_⟩
  have hG : Gc F (slo F) G := cm.resolve_left fun z => nF z.1
  have wG : nm G < 2 ^ ((2 * 16 + 1) * (W + 5) + 16) := nm_fac (n := 16) (s := W + 5) hG.dF hG.ok hG.ne okF nF (by omega) (by rw [Nat.pow_add]; omega)
  obtain ⟨q0, okq, nq, lq, eq, _⟩ := hG.dF.fac hG.ok hG.ne okF nF
  have q0l := List.length_pos_iff.mpr nq
  have k : (F.length + 2) * ((2 * 16 + 1) * (W + 5) + 16 + 1) ≤ 18 * ((2 * 16 + 1) * (W + 5) + 16 + 1) := Nat.mul_le_mul_right _ (by omega)
  refine ⟨u, z2, F, G, W, _, rfl, hu.kt (Kt.of (s1.trans s2)), r2, okF, hG.ok, hG.ne, wF, wG, by omega, by omega, by omega, fun z3 t H3 s3 r3 ov => q z3 t H3 (s1.trans (s2.trans s3)) r3 ⟨G, hG, ov⟩, fun no => absurd ⟨_, ov_some hG.ok hG.ne (c := 1) (by decide) okF okq fun x => by rw [eq x]; omega⟩ no⟩
theorem scPow : FnScope ["_law_line_here", "_law_few", "_law_found", "_law_spot"] ["_law_line_here", "_law_few"] (defScope sPow) := ⟨rfl, rfl, rfl, by decide +kernel, rfl, by decide +kernel, by decide +kernel⟩
theorem ok_pow (D : Def K mg "_law_power" sPow ["_law_line_here", "_law_few"]) (nb : Nb mg) (cp : Cal P w K mg base "_law_product" 2 ["_law_one", "_law_two"] spProd) : Cal P w K mg base "_law_power" 3 ["_law_line_here", "_law_few"] spPow := by
  refine D.ok scPow (fun vs H Q E h => ?_) (fun f cdv A out s H vs Q E hr h => ?_)
  · obtain ⟨u, r, n, rfl, _⟩ := h; rfl
  obtain ⟨u, r, n, rfl, hu, okr, lr, wr, hn, q⟩ := h
  refine ⟨_, Evl.pss_cut (ps_set (i := 2) scPow.nd rfl (Or.inl rfl) (pe_tup (pa_cons pe_int pa_nil)))
    (Evl.pss_cut (ps_for PassesOwn.never rfl (pi_range1 (by rfl) nb.rng (pa_cons (pv 1) pa_nil)) (pg_name (i := 3) scPow.nd rfl (Or.inl rfl))
      (pss_one (ps_set (i := 2) scPow.nd rfl (Or.inl rfl) (pe_cal cp hr (by omega) (by rfl) (pa_cons (pv 2) (pa_cons (pv 0) pa_nil))))))
    (pss_one (ps_ret (pv 2)))), ?_⟩
  walk_at "rd"
  refine ⟨fun σ H' => ∃ p, σ = [some u, some (.int (n : Int)), some (.ref p), none] ∧ Same H H' ∧ H' p = some (.tup ([(1 : Int)].map V.int)), ?_, ?_⟩
  · exact ⟨sz (by simp), fun p np => ⟨p, rfl, same_new np, upd_same⟩⟩
  rintro σ1 H1 ⟨p, rfl, s1, e1⟩
  refine ⟨fun σ H' => ∃ z t x3, σ = [some u, some (.int (n : Int)), some z, x3] ∧ Same H H' ∧ Ro H' z t ∧ okR t ∧ t.length ≤ n + 1 ∧ nm t ≤ 1000003 ^ n, ?_, ?_⟩
  · refine ⟨.int (n : Int), rfl, _, rfl, by omega, by omega, ?_⟩
    rw [Int.toNat_natCast]
    refine for_rng (lo := 0) (n := n) (fun k σ H' => ∃ z t x3, σ = [some u, some (.int (n : Int)), some z, x3] ∧ Same H H' ∧ Ro H' z t ∧ okR t ∧ t.length ≤ k + 1 ∧ nm t ≤ 1000003 ^ k) ?_ ?_ ?_
    · exact ⟨.ref p, [1], none, rfl, s1, ⟨p, rfl, e1⟩, fun c hc => by simp at hc; omega, Nat.le_refl _, by decide⟩
    · rintro k σ H2 hk ⟨z, t, x3, rfl, s2, rz, okt, lt, wt⟩
      have w1 : nm t < 2 ^ 80 := Nat.lt_of_le_of_lt (Nat.le_trans wt (Nat.pow_le_pow_right (by decide) (show k ≤ 4 by omega))) (by decide)
      have w2 : nm r < 2 ^ 20 := by omega
      refine ⟨z, rfl, u, rfl, z, u, t, r, rfl, rz, hu.kt (Kt.of s2), by omega, by omega, cm_of w1 w2 (by omega), fun z2 t2 H3 s3 r3 ok3 g3 => ⟨z2, t2, _, rfl, s2.trans s3, r3, ok3, ?_, ?_⟩⟩
      · have := prod_len ok3 g3; omega
      · rw [Nat.pow_succ]
        exact Nat.le_trans (prod_nm ok3 g3) (Nat.mul_le_mul wt wr)
    · rintro σ H2 h
      exact h
  rintro σ2 H2 ⟨z, t, x3, rfl, s2, rz, okt, lt, wt⟩
  exact ⟨z, rfl, q z t H2 s2 rz okt lt wt⟩
theorem scRoot : FnScope ["_law_whole", "_law_few", "_law_found", "_law_spot", "_law_power_here", "_law_closer"] ["_law_whole", "_law_few"] (defScope sRoot) := ⟨rfl, rfl, rfl, by decide +kernel, rfl, by decide +kernel, by decide +kernel⟩
theorem ok_root (D : Def K mg "_law_root" sRoot ["_law_whole", "_law_few"]) (nb : Nb mg) : Cal P w K mg base "_law_root" 1 ["_law_whole", "_law_few"] spRoot := by
  refine D.ok scRoot (fun vs H Q E h => ?_) (fun f cdv A out s H vs Q E hr h => ?_)
  · obtain ⟨x, f, rfl, _⟩ := h; rfl
  obtain ⟨x, f, rfl, x2, x40, hf, q⟩ := h
  refine ⟨_, Evl.pss_cut (ps_if (PW.pt (pw_or (pt_cmpR op_eq (pv 1) pe_int (nomark _)) (pw_or1 (pt_cmpR op_lt (pv 0) pe_int (nomark _)))))
      (pss_one (ps_ret (pv 0)))
      (pss_nil))
    (Evl.pss_cut (ps_if (pt_cmpR op_eq (pv 1) pe_int (nomark _))
      (pss_dead)
      (pss_nil))
    (Evl.pss_cut (ps_set (i := 2) scRoot.nd rfl (Or.inl rfl) (pe_op op_oneShl pe_int (pe_op op_add (pe_op op_fdiv (pe_bits (pv 0)) (pv 1)) pe_int)))
    (Evl.pss_cut (ps_for PassesOwn.never rfl (pi_range1 (by rfl) nb.rng (pa_cons (pe_op op_add (pe_bits (pv 0)) pe_int) pa_nil)) (pg_name (i := 3) scRoot.nd rfl (Or.inl rfl))
      (Evl.pss_cut (ps_set (i := 4) scRoot.nd rfl (Or.inl rfl) (pe_ifExp (pt_cmpR op_eq (pv 1) pe_int (nomark _)) (pv 2) (pe_op op_mul (pv 2) (pv 2))))
    (Evl.pss_cut (ps_set (i := 5) scRoot.nd rfl (Or.inl rfl) (pe_op op_fdiv (pe_op op_add (pe_op op_mul (pe_op op_sub (pv 1) pe_int) (pv 2)) (pe_op op_fdiv (pv 0) (pv 4))) (pv 1)))
    (Evl.pss_cut (ps_if (pt_cmpR op_ge (pv 5) (pv 2) (nomark _))
      (pss_one (ps_ret (pv 2)))
      (pss_nil))
    (pss_one (ps_set (i := 2) scRoot.nd rfl (Or.inl rfl) (pv 5)))))))
    (pss_one (ps_ret (pv 2)))))), ?_⟩
  walk_at "rd"
  have skip : ∀ k : Int, k ≠ f → ∀ {Pp Qq : Prop}, Qq → (if decide (f = k) = true then Pp else Qq) := fun k hk Pp Qq h => by rw [if_neg (by rw [decide_eq_false (fun z => hk z.symm)]; decide)]; exact h
  refine ⟨fun σ H' => σ = [some (.int x), some (.int f), none, none, none, none] ∧ H' = H, ?_, ?_⟩
  · refine ⟨.int f, rfl, rfl, _, rfl, ?_⟩
    rw [dec_int, show (f == 1) = false from beq_eq_false_iff_ne.mpr (by omega)]
    refine iteF ⟨.int x, rfl, _, _, rfl, rfl, _, rfl, ite2 (fun c => ?_) (fun c => ⟨rfl, rfl⟩)⟩
    have := of_decide_eq_true c
    omega
  rintro σ1 H1 ⟨rfl, rfl⟩
  refine ⟨fun σ H' => σ = [some (.int x), some (.int f), none, none, none, none] ∧ H' = H1, ?_, ?_⟩
  · refine ⟨.int f, rfl, rfl, _, rfl, ?_⟩
    rw [dec_int, show (f == 4) = false from beq_eq_false_iff_ne.mpr (by omega)]
    exact iteF ⟨rfl, rfl⟩
  rintro σ2 H2 ⟨rfl, rfl⟩
  have bl : Builtin.Int.intBits x ≤ 6 := intBits_le (show x.natAbs < 2 ^ 6 by omega)
  generalize hbb : Builtin.Int.intBits x = bb at bl
  refine ⟨fun σ H' => ∃ fd : Int, σ = [some (.int x), some (.int f), some (.int fd), none, none, none] ∧ H' = H2 ∧ 1 ≤ fd ∧ fd ≤ 64, ?_, ?_⟩
  · refine ⟨.int x, rfl, x, rfl, ?_⟩
    rw [hbb]
    have k1 : ((bb : Int) / f).toNat ≤ 3 := by
      rcases hf with rfl | rfl <;> omega
    have k0 : 0 ≤ (bb : Int) / f := by rcases hf with rfl | rfl <;> omega
    refine ⟨.int f, rfl, _, _, rfl, rfl, ⟨by omega, by omega⟩, _, _, rfl, rfl, ((bb : Int) / f).toNat + 1, rfl, ?_, by omega, (2 : Int) ^ (((bb : Int) / f).toNat + 1), rfl, rfl, ?_, ?_⟩
    · show V.int ((bb : Int) / f + 1) = _
      congr 1; omega
    · exact Int.pow_pos (by decide)
    · have : (2 : Int) ^ (((bb : Int) / f).toNat + 1) = ((2 ^ (((bb : Int) / f).toNat + 1) : Nat) : Int) := by rw [Int.natCast_pow]; rfl
      rw [this]
      have : 2 ^ (((bb : Int) / f).toNat + 1) ≤ 2 ^ 4 := Nat.pow_le_pow_right (by decide) (by omega)
      omega
  rintro σ3 H3 ⟨fd, rfl, rfl, f1, f2⟩
  refine ⟨fun σ H' => ∃ (fd : Int) (x3 x4 x5 : Option V), σ = [some (.int x), some (.int f), some (.int fd), x3, x4, x5] ∧ H' = H3 ∧ 1 ≤ fd ∧ fd ≤ 64, ?_, ?_⟩
  · refine ⟨.int x, rfl, x, rfl, _, _, rfl, rfl, _, rfl, by omega, by omega, ?_⟩
    refine for_rng (lo := 0) (fun k σ H' => ∃ (fd : Int) (x3 x4 x5 : Option V), σ = [some (.int x), some (.int f), some (.int fd), x3, x4, x5] ∧ H' = H3 ∧ 1 ≤ fd ∧ fd ≤ 64) ?_ ?_ ?_
    · exact ⟨fd, none, none, none, rfl, rfl, f1, f2⟩
    · rintro k σ H4 hk ⟨fd, x3, x4, x5, rfl, rfl, f1, f2⟩
      refine ⟨fun σ' H' => ∃ pw, σ' = [some (.int x), some (.int f), some (.int fd), some (.int (0 + (k : Int))), some (.int pw), x5] ∧ H' = H4 ∧ 1 ≤ pw ∧ pw ≤ 4096 ∧ (fd = 1 → pw = 1), ?_, ?_⟩
      · refine ⟨.int f, rfl, rfl, _, rfl, ?_⟩
        rw [dec_int]
        by_cases c : f = 2
        · rw [show (f == 2) = true by rw [c]; rfl]
          exact iteT ⟨.int fd, rfl, fd, rfl, rfl, f1, by omega, fun z => z⟩
        · rw [show (f == 2) = false from beq_eq_false_iff_ne.mpr c]
          have sq : 1 ≤ fd * fd := by
            have := Int.mul_le_mul_of_nonneg_left f1 (show 0 ≤ fd by omega)
            omega
          have sq2 : fd * fd ≤ 4096 := by
            have a := Int.mul_le_mul_of_nonneg_left f2 (show 0 ≤ fd by omega)
            omega
          exact iteF ⟨.int fd, rfl, .int fd, rfl, fd, fd, rfl, rfl, .inl ⟨by omega, by omega⟩, fd * fd, rfl, rfl, sq, sq2, fun z => by rw [z]; rfl⟩
      rintro σ5 H5 ⟨pw, rfl, rfl, p1, p2, p3⟩
      have xd0 : 0 ≤ x / pw := Int.ediv_nonneg (by omega) (by omega)
      have xd1 : x / pw ≤ x := Int.ediv_le_self _ (by omega)
      refine ⟨fun σ' H' => ∃ cl : Int, σ' = [some (.int x), some (.int f), some (.int fd), some (.int (0 + (k : Int))), some (.int pw), some (.int cl)] ∧ H' = H5 ∧ 1 ≤ cl, ?_, ?_⟩
      · refine ⟨.int f, rfl, _, _, rfl, rfl, .int fd, rfl, _, _, rfl, rfl, .inl ⟨by omega, by omega⟩, .int x, rfl, .int pw, rfl, _, _, rfl, rfl, ⟨by omega, by omega⟩, _, _, rfl, rfl, .int f, rfl, _, _, rfl, rfl, ⟨by omega, by omega⟩, _, rfl, rfl, ?_⟩
        show 1 ≤ ((f - 1) * fd + x / pw) / f
        have num : f ≤ (f - 1) * fd + x / pw := by
          rcases Int.lt_or_le 1 fd with c | c
          · rcases hf with rfl | rfl <;> omega
          · have e : fd = 1 := by omega
            rw [e, p3 e, Int.ediv_one]
            omega
        have : f / f ≤ ((f - 1) * fd + x / pw) / f := Int.ediv_le_ediv (by omega) num
        rw [Int.ediv_self (by omega)] at this
        exact this
      rintro σ6 H6 ⟨cl, rfl, rfl, c1⟩
      refine ⟨fun σ' H' => (σ' = [some (.int x), some (.int f), some (.int fd), some (.int (0 + (k : Int))), some (.int pw), some (.int cl)] ∧ H' = H6) ∧ cl < fd, ?_, ?_⟩
      · refine ⟨.int cl, rfl, .int fd, rfl, _, _, rfl, rfl, _, rfl, ite2 (fun c => ?_) (fun c => ⟨⟨rfl, rfl⟩, ?_⟩)⟩
        · exact ⟨.int fd, rfl, q fd H6 (Same.refl _) f1 f2⟩
        · have : ¬ (fd ≤ cl) := fun z => c (decide_eq_true z)
          omega
      rintro σ7 H7 ⟨⟨rfl, rfl⟩, lt⟩
      exact ⟨.int cl, rfl, cl, _, _, _, rfl, rfl, c1, by omega⟩
    · rintro σ H4 h
      exact h
  rintro σ4 H4 ⟨fd, x3, x4, x5, rfl, rfl, f1, f2⟩
  exact ⟨.int fd, rfl, q fd H4 (Same.refl _) f1 f2⟩
end
end K03

set_option Elab.async false
set_option linter.all false
set_option maxRecDepth 100000
set_option maxHeartbeats 8000000
local macro_rules | `(tactic| walk_at "rd") => `(tactic| dsimp only [Evl.tCut, L2.tBits, L2.tOrT, L2.tAndT, L2.tSeq, L2.tNext, L2.tRet, L2.tRetN, L2.tAsg, L2.gName, L2.tIfS, L2.tDrop, L2.tCons, L2.tNil, L2.tC, L2.tVar, L2.tCB, L2.tAndV, L2.tOrV, L2.tNotV, L2.tB, L2.tTest, L2.tOp, L2.tUn, L2.tNot, L2.tAnd, L2.tOr, L2.tIf, L2.tCall, L2.tTup, L2.tLst, L2.tNotT, L2.tYes, L2.gTup, L2.gCons, L2.gNil, L2.gSub, L2.tBM0, L2.tBM, L2.tWhile, L2.tFor, L2.iRng1, L2.iRng2, L2.tAugS, Tw.iEnumT, L2.tCKw, L2.tAug, L2.ipI, RT.iRevA, L2.iRevR, L2.tPar, L2.tPar3, L2.tSl, L2.tNoPart, L2.tPart, Tw.tRevT, L2.rAdd, L2.rSub, L2.tBits])
namespace K03
open PySem PySem.Spec PyProof.Rows L2 Tw
def spOwn : Sp := fun vs H Q _ => ∃ a, vs = [.ref a] ∧ We a H ∧ ∀ v H', Kp a H H' → We a H' → Own H' v → Q v H'
def spMade : Sp := fun vs H Q _ => ∃ a, vs = [.ref a] ∧ We a H ∧ ∀ z t H', Kp a H H' → We a H' → Ro H' z t → okR t → t.length ≤ 5 → nm t < 2 ^ 80 → Q z H'
theorem Own.kp {a : Addr} {H H' : Hp} {v : V} (w : We a H) (k : Kp a H H') (h : Own H v) : Own H' v := by
  obtain ⟨p, q, x, b, ss, rfl, hp, hq, r⟩ := h
  exact ⟨p, q, x, b, ss, rfl, k _ _ (We.nt w hp) hp, k _ _ (We.nt w hq) hq, r⟩
theorem Ro.kp {a : Addr} {H H' : Hp} {v : V} {r : List Int} (w : We a H) (k : Kp a H H') (h : Ro H v r) : Ro H' v r := h.kt (kt_kp w k)
theorem nm_two (a b : Int) : nm [a, b] = a.natAbs + b.natAbs := by show a.natAbs + (b.natAbs + 0) = _; omega
theorem nm_one (a : Int) : nm [a] = a.natAbs := by show a.natAbs + 0 = _; omega
section
variable {P : Program} {w : World} {K : PySem.W.Frag} {mg : Str → Option Value} {base : Heap}
theorem scLeast : FnScope ["_law_own_here", "_law_whole", "_law_some", "_law_base", "_law_by", "_law_spot"] ["_law_own_here"] (defScope sLeast) := ⟨rfl, rfl, rfl, by decide +kernel, rfl, by decide +kernel, by decide +kernel⟩
theorem ok_least (D : Def K mg "_law_least" sLeast ["_law_own_here"]) (nb : Nb mg) (cp : Cal P w K mg base "_law_prime" 34 ["_law_line_here"] spPrime) (cs : Cal P w K mg base "_law_sum" 2 ["_law_one", "_law_two"] spLSum) (cw : Cal P w K mg base "_law_power" 3 ["_law_line_here", "_law_few"] spPow)
    (ct : Cal P w K mg base "_law_trim" 1 ["_law_some"] spTrimI) : Cal P w K mg base "_law_least" 35 ["_law_own_here"] spLeast := by
  refine D.ok scLeast (fun vs H Q E h => ?_) (fun f cdv A out s H vs Q E hr h => ?_)
  · obtain ⟨v, rfl, _⟩ := h; rfl
  obtain ⟨v, rfl, ⟨p, sp, x, b, ss, rfl, hp, hq, l1, l4, bx, b0, b1, bb1, bb3⟩, q⟩ := h
  refine ⟨_, Evl.pss_cut (ps_asg (pv 0) (pg_tup rfl (pgs_cons (pg_name (i := 1) scLeast.nd rfl (Or.inl rfl)) (pgs_cons (pg_name (i := 2) scLeast.nd rfl (Or.inl rfl)) (pgs_cons (pg_name (i := 3) scLeast.nd rfl (Or.inl rfl)) pgs_nil)))))
    (Evl.pss_cut (ps_set (i := 4) scLeast.nd rfl (Or.inl rfl) (pv 1))
    (Evl.pss_cut (ps_for PassesOwn.never rfl (pi_range1 (by rfl) nb.rng (pa_cons (pe_callB (id := "len") (r := rLn K) call_len_seq (by rfl) nb.len PySem.boot_len (pa_cons (pv 2) pa_nil)) pa_nil)) (pg_name (i := 5) scLeast.nd rfl (Or.inl rfl))
      (pss_one (ps_set (i := 4) scLeast.nd rfl (Or.inl rfl) (pe_ifExp (pt_cmpR op_gt (pe_callB (id := "len") (r := rLn K) call_len_seq (by rfl) nb.len PySem.boot_len (pa_cons (pv 2) pa_nil)) pe_int (nomark _)) (pe_op op_mul (pv 4) (pe_ix (r := rIxT K) ix_tup (pv 2) pe_int (fun _ _ => rfl))) (pe_ix (r := rIxT K) ix_tup (pv 2) pe_int (fun _ _ => rfl))))))
    (Evl.pss_cut (ps_if (pt_cmpR op_eq (pe_callB (id := "len") (r := rLn K) call_len_seq (by rfl) nb.len PySem.boot_len (pa_cons (pv 2) pa_nil)) pe_int (nomark _))
      (pss_one (ps_ret (pe_cal cp hr (by omega) (by rfl) (pa_cons (pe_tup (pa_cons (pe_op op_sub pe_int (pv 4)) (pa_cons (pv 3) pa_nil))) pa_nil))))
      (pss_nil))
    (pss_one (ps_ret (pe_cal cp hr (by omega) (by rfl) (pa_cons (pe_cal cs hr (by omega) (by rfl) (pa_cons (pe_cal cw hr (by omega) (by rfl) (pa_cons (pe_tup (pa_cons (pe_op op_sub pe_int (pe_ix (r := rIxT K) ix_tup (pv 2) pe_int (fun _ _ => rfl))) (pa_cons (pv 3) pa_nil))) (pa_cons (pe_callB (id := "len") (r := rLn K) call_len_seq (by rfl) nb.len PySem.boot_len (pa_cons (pv 2) pa_nil)) pa_nil))) (pa_cons (pe_cal ct hr (by omega) (by rfl) (pa_cons (pe_tup (pa_cons (pe_op op_sub pe_int (pv 4)) pa_nil)) pa_nil)) pa_nil))) pa_nil))))))), ?_⟩
  walk_at "rd"
  refine ⟨fun σ H' => σ = [some (.ref p), some (.int x), some (.ref sp), some (.int b), none, none] ∧ H' = H, ?_, ?_⟩
  · exact ⟨.ref p, rfl, p, _, rfl, SqT.of hp, rfl, _, _, rfl, _, _, rfl, _, _, rfl, rfl, rfl, rfl⟩
  rintro σ1 H1 ⟨rfl, rfl⟩
  refine ⟨fun σ H' => σ = [some (.ref p), some (.int x), some (.ref sp), some (.int b), some (.int x), none] ∧ H' = H1, ⟨.int x, rfl, rfl, rfl⟩, ?_⟩
  rintro σ2 H2 ⟨rfl, rfl⟩
  have g1 : ∀ k, k < ss.length → (ss.map V.int)[k]? = some (.int (g ss k)) := fun k hk => at_g hk
  refine ⟨fun σ H' => ∃ (y : Int) (x5 : Option V), σ = [some (.ref p), some (.int x), some (.ref sp), some (.int b), some (.int y), x5] ∧ H' = H2 ∧ y.natAbs ≤ 1000000 ∧ (2 ≤ ss.length → y.natAbs ≤ 3240), ?_, ?_⟩
  · refine ⟨.ref sp, rfl, sp, _, rfl, .inr (SqT.of hq), _, rfl, by rw [List.length_map]; omega, by rw [List.length_map]; omega, ?_⟩
    rw [List.length_map, Int.toNat_natCast]
    refine for_rng (lo := 0) (fun k σ H' => ∃ (y : Int) (x5 : Option V), σ = [some (.ref p), some (.int x), some (.ref sp), some (.int b), some (.int y), x5] ∧ H' = H2 ∧ y.natAbs ≤ 1000000 ∧ (2 ≤ ss.length → y.natAbs ≤ 40 * 3 ^ k)) ?_ ?_ ?_
    · exact ⟨x, none, rfl, rfl, by omega, fun _ => by simpa using bx⟩
    · rintro k σ H3 hk ⟨y, x5, rfl, rfl, yb, yc⟩
      refine ⟨.ref sp, rfl, sp, _, rfl, .inr (SqT.of hq), _, _, rfl, rfl, _, rfl, ite2 (fun c => ?_) (fun c => ?_)⟩
      · have c := of_decide_eq_true c
        rw [List.length_map] at c
        have c2 : 2 ≤ ss.length := by omega
        refine ⟨.int y, rfl, .ref sp, rfl, sp, _, _, _, rfl, rfl, SqT.of hq, (show atI _ ((1 : Nat) : Int) = _ from atI_nat (g1 1 (by omega))), _, _, rfl, rfl, .inl ⟨by omega, by omega⟩, y * g ss 1, _, rfl, rfl, ?_, fun _ => ?_⟩
        · have h1 := yc c2
          have h3 : 40 * 3 ^ k ≤ 40 * 3 ^ 4 := Nat.mul_le_mul_left _ (Nat.pow_le_pow_right (by decide) (by omega))
          have h2 : y.natAbs * (g ss 1).natAbs ≤ 40 * 3 ^ 4 * 3 := Nat.mul_le_mul (by omega) b1
          rw [Int.natAbs_mul]
          omega
        · have h1 := yc c2
          rw [Int.natAbs_mul, Nat.pow_succ, ← Nat.mul_assoc]
          exact Nat.mul_le_mul h1 b1
      · rw [List.length_map] at c
        have c2 : ¬ (2 ≤ ss.length) := fun z => c (decide_eq_true (by omega))
        exact ⟨.ref sp, rfl, sp, _, _, _, rfl, rfl, SqT.of hq, (show atI _ ((0 : Nat) : Int) = _ from atI_nat (g1 0 (by omega))), g ss 0, _, rfl, rfl, b0, fun z => absurd z c2⟩
    · rintro σ H3 ⟨y, x5, rfl, rfl, yb, yc⟩
      refine ⟨y, x5, rfl, rfl, yb, fun z => ?_⟩
      have h3 : 40 * 3 ^ ss.length ≤ 40 * 3 ^ 4 := Nat.mul_le_mul_left _ (Nat.pow_le_pow_right (by decide) l4)
      have := yc z
      omega
  rintro σ3 H3 ⟨y, x5, rfl, rfl, yb, yc⟩
  refine ⟨fun σ H' => (σ = [some (.ref p), some (.int x), some (.ref sp), some (.int b), some (.int y), x5] ∧ H' = H3) ∧ 2 ≤ ss.length, ?_, ?_⟩
  · refine ⟨.ref sp, rfl, sp, _, rfl, .inr (SqT.of hq), rfl, _, rfl, ?_⟩
    rw [dec_int, List.length_map]
    by_cases c : ss.length = 1
    · rw [show (((ss.length : Nat) : Int) == 1) = true by rw [c]; rfl]
      refine iteT ⟨.int y, rfl, _, _, rfl, rfl, .int b, rfl, sz (by simp), fun t nt => ?_⟩
      have ok : okR [0 - y, b] := fun c hc => by simp at hc; omega
      refine ⟨.ref t, [0 - y, b], rfl, ⟨t, rfl, upd_same⟩, ok, by simp, fun z H4 s4 rz => q z _ H4 ((same_new nt).trans s4) rz (okR_primeI ok) (by rw [len_primeI]; simp) ?_⟩
      refine Nat.lt_of_le_of_lt (nm_primeN ok) ?_
      rw [nm_two]
      omega
    · rw [show (((ss.length : Nat) : Int) == 1) = false from beq_eq_false_iff_ne.mpr (by omega)]
      exact iteF ⟨⟨rfl, rfl⟩, by omega⟩
  rintro σ4 H4 ⟨⟨rfl, rfl⟩, l2⟩
  have y3 := yc l2
  have n0 : ∀ {t : Addr} {H' : Hp}, Same H4 H' → H' t = none → Same H4 (upd H' t (.tup [V.int (0 - g ss 0), V.int b])) := fun s n => s.trans (same_new n)
  refine ⟨.ref sp, rfl, sp, _, _, _, rfl, rfl, SqT.of hq, (show atI _ ((0 : Nat) : Int) = _ from atI_nat (g1 0 (by omega))), _, _, rfl, rfl, .int b, rfl, sz (by simp), fun t nt => ?_⟩
  have s5 := same_new (o := .tup [V.int (0 - g ss 0), V.int b]) nt
  have ok : okR [0 - g ss 0, b] := fun c hc => by simp at hc; omega
  refine ⟨.ref sp, rfl, sp, _, rfl, .inr (SqT.of (s5 _ _ hq)), .ref t, [0 - g ss 0, b], ss.length, by rw [List.length_map]; rfl, ⟨t, rfl, upd_same⟩, ok, by simp, by rw [nm_two]; omega, l4, fun z1 t1 H6 s6 r6 ok6 l6 n6 => ?_⟩
  refine ⟨.int y, rfl, _, _, rfl, rfl, sz (by simp), fun t2 nt2 => ?_⟩
  have s7 := same_new (o := .tup [V.int (0 - y)]) nt2
  refine ⟨t2, [0 - y], rfl, .inr upd_same, by simp, fun z2 H8 s8 r8 => ?_⟩
  refine ⟨z1, z2, t1, trimI [0 - y], rfl, r6.kt (Kt.of (s7.trans s8)), r8, by omega, Nat.le_trans (trimBy_len _ _) (by simp), fun z3 t3 H9 s9 r9 ok9 g9 => ?_⟩
  have l9 := sum_len ok9 g9
  have n9 := sum_nm ok9 g9
  have lt1 : (trimI [0 - y]).length ≤ 1 := Nat.le_trans (trimBy_len _ _) (by simp)
  have nt1 : nm (trimI [0 - y]) ≤ 3240 := Nat.le_trans (nm_trim _) (by rw [nm_one]; omega)
  refine ⟨z3, t3, rfl, r9, ok9, by omega, fun z H10 s10 rz => q z _ H10 (s5.trans (s6.trans (s7.trans (s8.trans (s9.trans s10))))) rz (okR_primeI ok9) (by rw [len_primeI]; omega) ?_⟩
  refine Nat.lt_of_le_of_lt (nm_primeN ok9) ?_
  have : (1000003 : Nat) ^ ss.length ≤ 1000003 ^ 4 := Nat.pow_le_pow_right (by decide) l4
  have e : (1000003 : Nat) ^ 4 + 3240 < 2 ^ 80 := by decide
  omega
theorem scOwn : FnScope ["_law_well_here", "_law_branch", "_law_top", "_law_base", "_law_part", "_law_by", "_law_whole", "_law_few", "_law_far"] ["_law_well_here"] (defScope sOwn) := ⟨rfl, rfl, rfl, by decide +kernel, rfl, by decide +kernel, by decide +kernel⟩
theorem ok_own (D : Def K mg "_law_own" sOwn ["_law_well_here"]) (nb : Nb mg) (cd : Cal P w K mg base "_law_draw" 1 ["_law_well_here", "_law_few"] spDraw) (cs : Cal P w K mg base "_law_small" 2 ["_law_well_here"] spInt) (ck : Cal P w K mg base "_law_pick" 2 ["_law_well_here", "_law_some"] spPick)
    (cl : Cal P w K mg base "_law_lean" 2 ["_law_top", "_law_base"] spLean) (cr : Cal P w K mg base "_law_root" 1 ["_law_whole", "_law_few"] spRoot) : Cal P w K mg base "_law_own" 3 ["_law_well_here"] spOwn := by
  refine D.ok scOwn (fun vs H Q E h => ?_) (fun f cdv A out s H vs Q E hr h => ?_)
  · obtain ⟨a, rfl, _⟩ := h; rfl
  obtain ⟨a, rfl, hw, q⟩ := h
  refine ⟨_, Evl.pss_cut (ps_par (i := 1) (j := 2) rfl scOwn.nd rfl rfl (by decide) rfl rfl (pa_cons (pe_cal cd hr (by omega) (by rfl) (pa_cons (pv 0) (pa_cons pe_int pa_nil))) (pa_cons (pe_cal cs hr (by omega) (by rfl) (pa_cons (pv 0) pa_nil)) pa_nil)) rfl)
    (Evl.pss_cut (ps_set (i := 3) scOwn.nd rfl (Or.inl rfl) (pe_cal ck hr (by omega) (by rfl) (pa_cons (pv 0) (pa_cons (pe_tup (pa_cons pe_int (pa_cons pe_int (pa_cons pe_int (pa_cons pe_int (pa_cons pe_int (pa_cons pe_int pa_nil))))))) pa_nil))))
    (Evl.pss_cut (ps_if (pt_cmpR op_lt (pv 1) pe_int (nomark _))
      (Evl.pss_cut (ps_set (i := 4) scOwn.nd rfl (Or.inl rfl) (pe_cal cl hr (by omega) (by rfl) (pa_cons (pv 2) (pa_cons (pv 3) pa_nil))))
    (pss_one (ps_ret (pe_tup (pa_cons pe_int (pa_cons (pe_tup (pa_cons (pe_ix (r := rIxT K) ix_tup (pv 4) pe_int (fun _ _ => rfl)) pa_nil)) (pa_cons (pe_ix (r := rIxT K) ix_tup (pv 4) pe_int (fun _ _ => rfl)) pa_nil)))))))
      (pss_nil))
    (Evl.pss_cut (ps_par (i := 5) (j := 6) rfl scOwn.nd rfl rfl (by decide) rfl rfl (pa_cons (pe_op op_add pe_int (pe_cal cd hr (by omega) (by rfl) (pa_cons (pv 0) (pa_cons pe_int pa_nil)))) (pa_cons (pe_op op_add pe_int (pe_cal cd hr (by omega) (by rfl) (pa_cons (pv 0) (pa_cons pe_int pa_nil)))) pa_nil)) rfl)
    (Evl.pss_cut (ps_set (i := 5) scOwn.nd rfl (Or.inl rfl) (pe_ifExp (pt_cmpR op_eq (pe_cal cd hr (by omega) (by rfl) (pa_cons (pv 0) (pa_cons pe_int pa_nil))) pe_int (nomark _)) (pv 5) (pe_op op_sub pe_int (pv 5))))
    (Evl.pss_cut (ps_set (i := 7) scOwn.nd rfl (Or.inl rfl) (pe_ifExp (pt_cmpR op_lt (pv 1) pe_int (nomark _)) pe_int (pe_op op_sub (pv 1) pe_int)))
    (Evl.pss_cut (ps_set (i := 8) scOwn.nd rfl (Or.inl rfl) (pe_cal cr hr (by omega) (by rfl) (pa_cons (pv 6) (pa_cons (pe_ifExp (pt_cmpR op_eq (pv 7) pe_int (nomark _)) pe_int pe_int) pa_nil))))
    (Evl.pss_cut (ps_if (pt_cmpR op_eq (pe_op op_mul (pe_op op_mul (pv 8) (pv 8)) (pe_ifExp (pt_cmpR op_eq (pv 7) pe_int (nomark _)) (pv 8) pe_int)) (pv 6) (nomark _))
      (pss_one (ps_set (i := 6) scOwn.nd rfl (Or.inl rfl) (pe_op op_add (pv 6) pe_int)))
      (pss_nil))
    (pss_one (ps_ret (pe_tup (pa_cons (pv 6) (pa_cons (pe_op (r := rCatA K) op_catA (pe_tup (pa_cons (pv 2) (pa_cons (pv 5) pa_nil))) (pe_op (r := rMulT K) op_mulT (pe_tup (pa_cons pe_int pa_nil)) (pe_op op_sub (pv 7) pe_int))) (pa_cons (pv 3) pa_nil))))))))))))), ?_⟩
  walk_at "rd"
  refine ⟨fun σ H' => ∃ (br top : Int), σ = [some (.ref a), some (.int br), some (.int top), none, none, none, none, none, none] ∧ Kp a H H' ∧ We a H' ∧ 0 ≤ br ∧ br < 10 ∧ top.natAbs ≤ 1000000, ?_, ?_⟩
  · refine ⟨.ref a, rfl, a, _, rfl, hw, by omega, by omega, fun d H1 d0 d1 k1 w1 => ⟨.ref a, rfl, a, rfl, w1, fun i H2 ib k2 w2 => ⟨_, _, rfl, d, i, rfl, k1.trans k2, w2, d0, d1, ib⟩⟩⟩
  rintro σ1 H1 ⟨br, top, rfl, k1, w1, br0, br1, tb⟩
  refine ⟨fun σ H' => ∃ (b : Int), σ = [some (.ref a), some (.int br), some (.int top), some (.int b), none, none, none, none, none] ∧ Kp a H H' ∧ We a H' ∧ 1 ≤ b ∧ b ≤ 3, ?_, ?_⟩
  · refine ⟨.ref a, rfl, sz (by simp), fun t nt => ⟨a, t, _, rfl, w1.to (same_new nt), w1.ne nt, upd_same, by simp, by simp, fun i y H2 hy k2 w2 => ?_⟩⟩
    have : ∃ b : Int, y = .int b ∧ 1 ≤ b ∧ b ≤ 3 := by
      match i, hy with
      | 0, h => cases h; exact ⟨_, rfl, by decide, by decide⟩
      | 1, h => cases h; exact ⟨_, rfl, by decide, by decide⟩
      | 2, h => cases h; exact ⟨_, rfl, by decide, by decide⟩
      | 3, h => cases h; exact ⟨_, rfl, by decide, by decide⟩
      | 4, h => cases h; exact ⟨_, rfl, by decide, by decide⟩
      | 5, h => cases h; exact ⟨_, rfl, by decide, by decide⟩
      | _ + 6, h => simp at h
    obtain ⟨b, rfl, b1, b3⟩ := this
    exact ⟨b, rfl, (k1.trans (kp_new nt)).trans k2, w2, b1, b3⟩
  rintro σ2 H2 ⟨b, rfl, k2, w2, b1, b3⟩
  refine ⟨fun σ H' => σ = [some (.ref a), some (.int br), some (.int top), some (.int b), none, none, none, none, none] ∧ H' = H2 ∧ 4 ≤ br, ?_, ?_⟩
  · refine ⟨.int br, rfl, _, _, rfl, rfl, _, rfl, ite2 (fun c => ?_) (fun c => ⟨rfl, rfl, ?_⟩)⟩
    · refine ⟨fun σ H' => ∃ v x y, σ = [some (.ref a), some (.int br), some (.int top), some (.int b), some v, none, none, none, none] ∧ Same H2 H' ∧ Pr H' v x y ∧ Lo x y top b, ?_, ?_⟩
      · exact ⟨.int top, rfl, .int b, rfl, top, b, rfl, by omega, by omega, fun v x y H3 s3 pr lo => ⟨v, x, y, rfl, s3, pr, lo⟩⟩
      rintro σ3 H3 ⟨v, x, y, rfl, s3, pr, lo⟩
      refine ⟨v, rfl, pr.ix0 ⟨sz (by simp), fun t nt => ⟨v, rfl, ?_⟩⟩⟩
      obtain ⟨pv', rfl, epv⟩ := pr
      have epv := (same_new (o := .tup [.int x]) nt) _ _ epv
      refine (show Pr _ (.ref pv') x y from ⟨pv', rfl, epv⟩).ix1 ⟨sz (by simp), fun t2 nt2 => ?_⟩
      have s4 := s3.trans ((same_new (o := .tup [.int x]) nt).trans (same_new (o := .tup [.int 1, .ref t, .int y]) nt2))
      refine q _ _ (k2.trans (Kp.of s4)) (w2.to s4) ⟨t2, t, 1, y, [x], rfl, upd_same, ?_, by simp, by simp, by decide, ?_, by show (0 : Int).natAbs ≤ 3; decide, ?_, ?_⟩
      · rw [upd_ne (fun z => by rw [z, upd_same] at nt2; cases nt2)]; exact upd_same
      · have := lo_num' lo (by omega)
        show x.natAbs ≤ 1000000
        omega
      · have := lo.1; omega
      · have := lo_le lo (by omega); omega
    · have : ¬ (br < 4) := fun z => c (decide_eq_true z)
      omega
  rintro σ3 H3 ⟨rfl, rfl, br4⟩
  refine ⟨fun σ H' => ∃ (y x : Int), σ = [some (.ref a), some (.int br), some (.int top), some (.int b), none, some (.int y), some (.int x), none, none] ∧ Kp a H H' ∧ We a H' ∧ 1 ≤ y ∧ y ≤ 3 ∧ 2 ≤ x ∧ x ≤ 31, ?_, ?_⟩
  · refine ⟨.ref a, rfl, a, _, rfl, w2, by omega, by omega, fun d H4 d0 d1 k4 w4 => ⟨_, _, rfl, rfl, .ref a, rfl, a, _, rfl, w4, by omega, by omega, fun e H5 e0 e1 k5 w5 => ⟨_, _, rfl, rfl, _, _, rfl, 1 + d, 2 + e, rfl, k2.trans (k4.trans k5), w5, by omega, by omega, by omega, by omega⟩⟩⟩
  rintro σ4 H4 ⟨y, x, rfl, k4, w4, y1, y3, x2, x31⟩
  refine ⟨fun σ H' => ∃ (y : Int), σ = [some (.ref a), some (.int br), some (.int top), some (.int b), none, some (.int y), some (.int x), none, none] ∧ Kp a H H' ∧ We a H' ∧ y.natAbs ≤ 3, ?_, ?_⟩
  · refine ⟨.ref a, rfl, a, _, rfl, w4, by omega, by omega, fun d H5 d0 d1 k5 w5 => ⟨rfl, _, rfl, ite2 (fun c => ?_) (fun c => ?_)⟩⟩
    · exact ⟨.int y, rfl, y, rfl, k4.trans k5, w5, by omega⟩
    · exact ⟨.int y, rfl, _, _, rfl, rfl, 0 - y, rfl, k4.trans k5, w5, by omega⟩
  rintro σ5 H5 ⟨y, rfl, k5, w5, yb⟩
  refine ⟨fun σ H' => ∃ (fw : Int), σ = [some (.ref a), some (.int br), some (.int top), some (.int b), none, some (.int y), some (.int x), some (.int fw), none] ∧ H' = H5 ∧ 2 ≤ fw ∧ fw ≤ 4, ?_, ?_⟩
  · refine ⟨.int br, rfl, _, _, rfl, rfl, _, rfl, ite2 (fun c => ?_) (fun c => ?_)⟩
    · exact ⟨2, rfl, rfl, by omega, by omega⟩
    · have : ¬ (br < 8) := fun z => c (decide_eq_true z)
      exact ⟨.int br, rfl, _, _, rfl, rfl, br - 5, rfl, rfl, by omega, by omega⟩
  rintro σ6 H6 ⟨fw, rfl, rfl, fw2, fw4⟩
  refine ⟨fun σ H' => ∃ (r : Int), σ = [some (.ref a), some (.int br), some (.int top), some (.int b), none, some (.int y), some (.int x), some (.int fw), some (.int r)] ∧ Same H6 H' ∧ 1 ≤ r ∧ r ≤ 64, ?_, ?_⟩
  · refine ⟨.int x, rfl, .int fw, rfl, rfl, _, rfl, ?_⟩
    rw [dec_int]
    by_cases c : fw = 3
    · rw [show (fw == 3) = true by rw [c]; rfl]
      exact iteT ⟨x, 3, rfl, x2, by omega, .inr rfl, fun r H7 s7 r1 r2 => ⟨r, rfl, s7, r1, r2⟩⟩
    · rw [show (fw == 3) = false from beq_eq_false_iff_ne.mpr c]
      exact iteF ⟨x, 2, rfl, x2, by omega, .inl rfl, fun r H7 s7 r1 r2 => ⟨r, rfl, s7, r1, r2⟩⟩
  rintro σ7 H7 ⟨r, rfl, s7, r1, r2⟩
  refine ⟨fun σ H' => ∃ (x : Int), σ = [some (.ref a), some (.int br), some (.int top), some (.int b), none, some (.int y), some (.int x), some (.int fw), some (.int r)] ∧ H' = H7 ∧ x.natAbs ≤ 40, ?_, ?_⟩
  · have rr : (r * r).natAbs ≤ 64 * 64 := by rw [Int.natAbs_mul]; exact Nat.mul_le_mul (by omega) (by omega)
    refine ⟨.int r, rfl, .int r, rfl, r, r, rfl, rfl, .inl ⟨by omega, by omega⟩, .int fw, rfl, rfl, _, rfl, ?_⟩
    by_cases c : fw = 3
    · rw [show decide (V.int fw = V.int 3) = true by rw [c]; rfl]
      refine iteT ⟨.int r, rfl, r * r, r, rfl, rfl, .inl ⟨by omega, by omega⟩, .int x, rfl, rfl, _, rfl, ite2 (fun _ => ?_) (fun _ => ?_)⟩
      · exact ⟨.int x, rfl, _, _, rfl, rfl, x + 1, rfl, rfl, by omega⟩
      · exact ⟨x, rfl, rfl, by omega⟩
    · rw [show decide (V.int fw = V.int 3) = false from decide_eq_false fun z => c (by injection z)]
      refine iteF ⟨r * r, 1, rfl, rfl, .inl ⟨by omega, by omega⟩, .int x, rfl, rfl, _, rfl, ite2 (fun _ => ?_) (fun _ => ?_)⟩
      · exact ⟨.int x, rfl, _, _, rfl, rfl, x + 1, rfl, rfl, by omega⟩
      · exact ⟨x, rfl, rfl, by omega⟩
  rintro σ8 H8 ⟨x, rfl, rfl, xb⟩
  refine ⟨.int x, rfl, .int top, rfl, .int y, rfl, sz (by simp), fun t nt => ⟨sz (by simp), fun t2 nt2 => ?_⟩⟩
  have s9 := same_new (o := .tup [.int top, .int y]) nt
  have s10 := s9.trans (same_new (o := .tup [.int 0]) nt2)
  have e1 : upd (upd H8 t (.tup [.int top, .int y])) t2 (.tup [.int 0]) t = some (.tup [.int top, .int y]) := (same_new nt2) _ _ upd_same
  have e2 : upd (upd H8 t (.tup [.int top, .int y])) t2 (.tup [.int 0]) t2 = some (.tup [.int 0]) := upd_same
  generalize upd (upd H8 t (.tup [.int top, .int y])) t2 (.tup [.int 0]) = H9 at s10 e1 e2 ⊢
  refine ⟨.int fw, rfl, _, _, rfl, rfl, t2, (fw - 2).toNat, [.int 0], rfl, by show V.int (fw - 2) = _; congr 1; omega, SqT.of e2, by simp, by omega, by simp, fun t3 H10 s11 e3 => ?_⟩
  have k10 : Kp a H H10 := k5.trans (Kp.of (s7.trans (s10.trans s11)))
  have w10 : We a H10 := w5.to (s7.trans (s10.trans s11))
  have e1 := s11 _ _ e1
  have own : ∀ (H' : Hp) (u : Addr) (ss : List Int), Kp a H10 H' → We a H' → H' u = some (.tup (ss.map V.int)) → 1 ≤ ss.length → ss.length ≤ 4 → g ss 0 = top → g ss 1 = y → ∀ p, H' p = none → Q (.ref p) (upd H' p (.tup [.int x, .ref u, .int b])) := fun H' u ss k' w' eu l1 l4 g0 g1 p np =>
    q _ _ (k10.trans (k'.trans (kp_new np))) (we_new w' np) ⟨p, u, x, b, ss, rfl, upd_same, (same_new np) _ _ eu, l1, l4, xb, by rw [g0]; exact tb, by rw [g1]; exact yb, b1, b3⟩
  have lz : ((List.replicate (fw - 2).toNat [V.int 0]).flatten) = List.replicate (fw - 2).toNat (V.int 0) := flat_one _ _
  refine ⟨t, t3, _, _, rfl, rfl, SqT.of e1, e3, ?_, (fun z => by cases z), fun _ z => ?_, fun _ _ u nu => ?_⟩
  · rw [lz, List.length_replicate]; exact sz (by simp; omega)
  · refine ⟨.int b, rfl, sz (by simp), fun p np => ?_⟩
    exact own H10 t [top, y] (Kp.refl _ _) w10 e1 (by simp) (by simp) rfl rfl p np
  · refine ⟨.int b, rfl, sz (by simp), fun p np => ?_⟩
    rw [lz] at np ⊢
    exact own _ u ([top, y] ++ List.replicate (fw - 2).toNat 0) (kp_new nu) (we_new w10 nu) (by rw [upd_same]; simp) (by simp) (by simp; omega) rfl rfl p np
theorem scMade : FnScope ["_law_well_here", "_law_branch", "_law_own_here"] ["_law_well_here"] (defScope sMade) := ⟨rfl, rfl, rfl, by decide +kernel, rfl, by decide +kernel, by decide +kernel⟩
theorem ok_made (D : Def K mg "_law_made" sMade ["_law_well_here"]) (nb : Nb mg) (cd : Cal P w K mg base "_law_draw" 1 ["_law_well_here", "_law_few"] spDraw) (cs : Cal P w K mg base "_law_small" 2 ["_law_well_here"] spInt) (cl : Cal P w K mg base "_law_least" 35 ["_law_own_here"] spLeast)
    (co : Cal P w K mg base "_law_own" 3 ["_law_well_here"] spOwn) (cm : Cal P w K mg base "_law_sum" 2 ["_law_one", "_law_two"] spLSum) (cw : Cal P w K mg base "_law_power" 3 ["_law_line_here", "_law_few"] spPow) (cn : Cal P w K mg base "_law_line" 3 ["_law_well_here", "_law_few"] spRowM)
    (ct : Cal P w K mg base "_law_trim" 1 ["_law_some"] spTrimI) : Cal P w K mg base "_law_made" 36 ["_law_well_here"] spMade := by
  refine D.ok scMade (fun vs H Q E h => ?_) (fun f cdv A out s H vs Q E hr h => ?_)
  · obtain ⟨a, rfl, _⟩ := h; rfl
  obtain ⟨a, rfl, hw, q⟩ := h
  refine ⟨_, Evl.pss_cut (ps_set (i := 1) scMade.nd rfl (Or.inl rfl) (pe_cal cd hr (by omega) (by rfl) (pa_cons (pv 0) (pa_cons pe_int pa_nil))))
    (Evl.pss_cut (ps_if (pt_cmpR op_lt (pv 1) pe_int (nomark _))
      (pss_one (ps_ret (pe_cal cl hr (by omega) (by rfl) (pa_cons (pe_cal co hr (by omega) (by rfl) (pa_cons (pv 0) pa_nil)) pa_nil))))
      (pss_nil))
    (Evl.pss_cut (ps_if (pt_cmpR op_lt (pv 1) pe_int (nomark _))
      (Evl.pss_cut (ps_set (i := 2) scMade.nd rfl (Or.inl rfl) (pe_tup (pa_cons (pe_op op_add pe_int (pe_cal cd hr (by omega) (by rfl) (pa_cons (pv 0) (pa_cons pe_int pa_nil)))) (pa_cons (pe_tup (pa_cons (pe_cal cs hr (by omega) (by rfl) (pa_cons (pv 0) pa_nil)) (pa_cons pe_int pa_nil))) (pa_cons (pe_op op_add pe_int (pe_cal cd hr (by omega) (by rfl) (pa_cons (pv 0) (pa_cons pe_int pa_nil)))) pa_nil)))))
    (pss_one (ps_ret (pe_cal cm hr (by omega) (by rfl) (pa_cons (pe_cal cw hr (by omega) (by rfl) (pa_cons (pe_tup (pa_cons (pe_op op_sub pe_int (pe_ix (r := rIxT K) ix_tup (pe_ix (r := rIxT K) ix_tup (pv 2) pe_int (fun _ _ => rfl)) pe_int (fun _ _ => rfl))) (pa_cons (pe_ix (r := rIxT K) ix_tup (pv 2) pe_int (fun _ _ => rfl)) pa_nil))) (pa_cons pe_int pa_nil))) (pa_cons (pe_tup (pa_cons (pe_ix (r := rIxT K) ix_tup (pv 2) pe_int (fun _ _ => rfl)) pa_nil)) pa_nil))))))
      (pss_nil))
    (Evl.pss_cut (ps_if (pt_cmpR op_lt (pv 1) pe_int (nomark _))
      (pss_one (ps_ret (pe_cal cn hr (by omega) (by rfl) (pa_cons (pv 0) (pa_cons pe_int pa_nil)))))
      (pss_nil))
    (pss_one (ps_ret (pe_cal ct hr (by omega) (by rfl) (pa_cons (pe_tup (pa_cons (pe_cal cs hr (by omega) (by rfl) (pa_cons (pv 0) pa_nil)) pa_nil)) pa_nil))))))), ?_⟩
  walk_at "rd"
  refine ⟨fun σ H' => ∃ (br : Int), σ = [some (.ref a), some (.int br), none] ∧ Kp a H H' ∧ We a H', ?_, ?_⟩
  · exact ⟨.ref a, rfl, a, _, rfl, hw, by omega, by omega, fun d H1 d0 d1 k1 w1 => ⟨d, rfl, k1, w1⟩⟩
  rintro σ1 H1 ⟨br, rfl, k1, w1⟩
  refine ⟨fun σ H' => σ = [some (.ref a), some (.int br), none] ∧ H' = H1, ?_, ?_⟩
  · refine ⟨.int br, rfl, _, _, rfl, rfl, _, rfl, ite2 (fun c => ?_) (fun c => ⟨rfl, rfl⟩)⟩
    exact ⟨.ref a, rfl, a, rfl, w1, fun v H2 k2 w2 ow => ⟨v, rfl, ow, fun z t H3 s3 rz ok l n => q z t H3 (k1.trans (k2.trans (Kp.of s3))) (w2.to s3) rz ok l n⟩⟩
  rintro σ2 H2 ⟨rfl, rfl⟩
  refine ⟨fun σ H' => σ = [some (.ref a), some (.int br), none] ∧ H' = H2, ?_, ?_⟩
  · refine ⟨.int br, rfl, _, _, rfl, rfl, _, rfl, ite2 (fun c => ?_) (fun c => ⟨rfl, rfl⟩)⟩
    refine ⟨fun σ H' => ∃ (p p2 : Addr) (x i b : Int), σ = [some (.ref a), some (.int br), some (.ref p)] ∧ Kp a H H' ∧ We a H' ∧ H' p = some (.tup [.int x, .ref p2, .int b]) ∧ H' p2 = some (.tup [.int i, .int 1]) ∧ x.natAbs ≤ 10 ∧ i.natAbs ≤ 1000000 ∧ 1 ≤ b ∧ b ≤ 2, ?_, ?_⟩
    · refine ⟨.ref a, rfl, a, _, rfl, w1, by omega, by omega, fun d H3 d0 d1 k3 w3 => ⟨_, _, rfl, rfl, .ref a, rfl, a, rfl, w3, fun i H4 ib k4 w4 => ⟨sz (by simp), fun t nt => ⟨.ref a, rfl, a, _, rfl, we_new w4 nt, by omega, by omega, fun e H5 e0 e1 k5 w5 => ⟨_, _, rfl, rfl, sz (by simp), fun p np => ?_⟩⟩⟩⟩⟩
      have nta := w4.ne nt
      refine ⟨p, t, 1 + d, i, 1 + e, rfl, k1.trans (k3.trans (k4.trans ((kp_new nt).trans (k5.trans (kp_new np))))), we_new w5 np, upd_same, ?_, by omega, ib, by omega, by omega⟩
      exact (same_new np) _ _ (k5 _ _ nta upd_same)
    rintro σ3 H3 ⟨p, p2, x, i, b, rfl, k3, w3, ep, ep2, xb, ib, b1, b2⟩
    refine ⟨.ref p, rfl, p, _, _, _, rfl, rfl, SqT.of ep, rfl, p2, _, _, _, rfl, rfl, SqT.of ep2, rfl, _, _, rfl, rfl, .ref p, rfl, p, _, _, _, rfl, rfl, SqT.of ep, rfl, sz (by simp), fun t nt => ?_⟩
    have s4 := same_new (o := .tup [.int (0 - i), .int b]) nt
    have ok : okR [0 - i, b] := fun c hc => by simp at hc; omega
    refine ⟨.ref t, [0 - i, b], 2, rfl, ⟨t, rfl, upd_same⟩, ok, by simp, by rw [nm_two]; omega, by omega, fun z1 t1 H5 s5 r5 ok5 l5 n5 => ?_⟩
    have ep := (s4.trans s5) _ _ ep
    refine ⟨.ref p, rfl, p, _, _, _, rfl, rfl, SqT.of ep, rfl, sz (by simp), fun t2 nt2 => ?_⟩
    have s6 := same_new (o := .tup [.int x]) nt2
    refine ⟨z1, .ref t2, t1, [x], rfl, r5.kt (Kt.of s6), ⟨t2, rfl, upd_same⟩, by omega, by simp, fun z3 t3 H7 s7 r7 ok7 g7 => ?_⟩
    have l7 := sum_len ok7 g7
    have n7 := sum_nm ok7 g7
    rw [nm_one] at n7
    have l1 : [x].length = 1 := rfl
    have s8 := s4.trans (s5.trans (s6.trans s7))
    exact q z3 t3 H7 (k3.trans (Kp.of s8)) (w3.to s8) r7 ok7 (by omega) (by have : (1000003 : Nat) ^ 2 + 10 < 2 ^ 80 := (by decide); omega)
  rintro σ3 H3 ⟨rfl, rfl⟩
  refine ⟨fun σ H' => σ = [some (.ref a), some (.int br), none] ∧ H' = H3, ?_, ?_⟩
  · refine ⟨.int br, rfl, _, _, rfl, rfl, _, rfl, ite2 (fun c => ?_) (fun c => ⟨rfl, rfl⟩)⟩
    refine ⟨.ref a, rfl, a, _, rfl, w1, by omega, by omega, fun z ns H4 k4 w4 rz ok l bd => q z ns H4 (k1.trans k4) w4 rz ok (by omega) ?_⟩
    have := nm_len bd
    have h2 : ns.length * 1000000 ≤ 4 * 1000000 := Nat.mul_le_mul_right _ (by omega)
    have h3 : 4 * 1000000 < 2 ^ 80 := by decide
    omega
  rintro σ4 H4 ⟨rfl, rfl⟩
  refine ⟨.ref a, rfl, a, rfl, w1, fun i H5 ib k5 w5 => ⟨sz (by simp), fun t nt => ⟨t, [i], rfl, .inr upd_same, by simp, fun z H6 s6 rz => ?_⟩⟩⟩
  have s7 := (same_new (o := .tup [.int i]) nt).trans s6
  refine q z _ H6 (k1.trans (k5.trans (Kp.of s7))) (w5.to s7) rz (okR_trim _) (Nat.le_trans (trimBy_len _ _) (by simp)) (Nat.lt_of_le_of_lt (nm_trim _) ?_)
  rw [nm_one]
  omega
end
end K03

set_option Elab.async false
set_option linter.all false
set_option maxRecDepth 100000
set_option maxHeartbeats 8000000
local macro_rules | `(tactic| walk_at "rd") => `(tactic| dsimp only [Evl.tCut, L2.tBits, L2.tOrT, L2.tAndT, L2.tSeq, L2.tNext, L2.tRet, L2.tRetN, L2.tAsg, L2.gName, L2.tIfS, L2.tDrop, L2.tCons, L2.tNil, L2.tC, L2.tVar, L2.tCB, L2.tAndV, L2.tOrV, L2.tNotV, L2.tB, L2.tTest, L2.tOp, L2.tUn, L2.tNot, L2.tAnd, L2.tOr, L2.tIf, L2.tCall, L2.tTup, L2.tLst, L2.tNotT, L2.tYes, L2.gTup, L2.gCons, L2.gNil, L2.gSub, L2.tBM0, L2.tBM, L2.tWhile, L2.tFor, L2.iRng1, L2.iRng2, L2.tAugS, Tw.iEnumT, L2.tCKw, L2.tAug, L2.ipI, RT.iRevA, L2.iRevR, L2.tPar, L2.tPar3, L2.tSl, L2.tNoPart, L2.tPart, Tw.tRevT, L2.rAdd, L2.rSub, L2.tBits])
namespace K03
open PySem PySem.Spec PyProof.Rows L2 Tw
/-! whether all is right -/
/-- repr of a row or of None -/
def rShowN (K : PySem.W.Frag) : List V → Hp → VK → Prop := fun xs H Q => (xs = [.non] ∧ Q (.str "None") H) ∨ rShow K xs H Q
theorem call_showN {X : Cx} (hq : Qt X.A) (hu : X.A.units + 70 < cLine) : CallR X (.builtin "repr") (rShowN X.K) := by
  intro pins s σ H xs us Q I r h
  rcases h with ⟨rfl, q⟩ | h
  · obtain ⟨u, rfl, rx⟩ := vals1 r
    cases rx
    exact PySem.P.repr_of_none ⟨.str _, H, I.tok _, ⟨_, rfl⟩, q⟩
  · exact call_show hq hu pins s σ H xs us Q I r h
def Sr (d : PyData) : Prop := PyData.showable d = true ∧ PyData.leavesShort 300 d = true ∧ PyData.bulk d ≤ 200
theorem sr_ints : ∀ {r : List Int}, (∀ c ∈ r, c.natAbs < 2 ^ 803) → PyData.showableAll (r.map PyData.int) = true ∧ PyData.leavesShortAll 300 (r.map PyData.int) = true ∧ PyData.bulkAll (r.map PyData.int) = r.length
  | [], _ => ⟨rfl, rfl, rfl⟩
  | c :: r, h => by
    have hc := h c (List.mem_cons_self ..)
    have ih := sr_ints (r := r) fun x hx => h x (List.mem_cons_of_mem _ hx)
    have lc : c.natAbs.log2 < 803 := by
      by_cases z : c.natAbs = 0
      · rw [z]; decide
      · exact (Nat.log2_lt z).mpr hc
    have hs : PyData.showable (.int c) = true := by rw [PyData.showable, decide_eq_true (by omega)]
    have hl : PyData.leavesShort 300 (.int c) = true := by
      have : (PyData.shown (.int c)).length ≤ 300 := by
        show (Str.ofString (toString c)).length ≤ 300
        rw [PySem.ofString_length]
        exact Nat.le_trans (int_text_length_le10 (k := 250) (by decide) (Nat.lt_trans hc (by decide +kernel))) (by decide)
      rw [PyData.leavesShort, decide_eq_true this]
    have hb : PyData.bulk (.int c) = 0 := by rw [PyData.bulk] <;> nofun
    rw [List.map_cons]
    refine ⟨by rw [PyData.showableAll, hs, ih.1]; rfl, by rw [PyData.leavesShortAll, hl, ih.2.1]; rfl, ?_⟩
    rw [PyData.bulkAll, ih.2.2, List.length_cons, hb]
    omega
/-- small enough to be shown -/
def Few (r : List Int) : Prop := nm r < 2 ^ 500 ∧ r.length ≤ 40
theorem sr_row {r : List Int} (h : Few r) : PyData.showable (rowD r) = true ∧ PyData.leavesShort 300 (rowD r) = true ∧ PyData.bulk (rowD r) ≤ 40 := by
  have := sr_ints (r := r) fun c hc => Nat.lt_of_lt_of_le (Nat.lt_of_le_of_lt (nm_mem hc) h.1) (Nat.pow_le_pow_right (by decide) (by decide))
  unfold rowD
  exact ⟨by rw [PyData.showable]; exact this.1, by rw [PyData.leavesShort]; exact this.2.1, by rw [PyData.bulk, this.2.2]; exact h.2⟩
theorem sr_rows : ∀ {ts : List (List Int)}, (∀ t ∈ ts, Few t) → PyData.showableAll (ts.map rowD) = true ∧ PyData.leavesShortAll 300 (ts.map rowD) = true ∧ PyData.bulkAll (ts.map rowD) ≤ 41 * ts.length
  | [], _ => ⟨rfl, rfl, by rw [List.map_nil, PyData.bulkAll]; exact Nat.zero_le _⟩
  | t :: ts, h => by
    have a := sr_row (h t (by simp))
    have ih := sr_rows (ts := ts) fun x hx => h x (by simp [hx])
    rw [List.map_cons]
    refine ⟨by rw [PyData.showableAll, a.1, ih.1]; rfl, by rw [PyData.leavesShortAll, a.2.1, ih.2.1]; rfl, ?_⟩
    rw [PyData.bulkAll, List.length_cons]
    have := a.2.2
    have := ih.2.2
    omega
theorem show_row {K : PySem.W.Frag} {H : Hp} {a : Addr} {x : V} {r : List Int} {Q : VK} (w : We a H) (rx : Ro H x r) (hr : Few r) (q : Q (.str (rowD r).shown) H) : rShowN K [x] H Q := by
  obtain ⟨a1, a2, a3⟩ := sr_row hr
  have da := da_row w rx
  obtain ⟨p, rfl, e⟩ := rx
  refine .inr ⟨p, rowD r, rfl, da.dp (nice_row r).1, (nice_row r).shaped (by decide), a1, ?_, q⟩
  have h := PyData.shown_le_bulk 300 (by decide) (rowD r) a2
  refine Nat.le_trans h (Nat.le_trans ?_ (show 16777216 ≤ sizeLine by decide))
  omega
theorem show_rows {K : PySem.W.Frag} {H : Hp} {a L : Addr} {ys : List V} {ts : List (List Int)} {Q : VK} (w : We a H) (e : H L = some (.lst ys)) (r : RoA H ys ts) (hr : ∀ t ∈ ts, Few t) (l : ts.length ≤ 1000) (q : Q (.str (PyData.list (ts.map rowD)).shown) H) : rShowN K [.ref L] H Q := by
  obtain ⟨a1, a2, a3⟩ := sr_rows hr
  have nc : ∀ d ∈ ts.map rowD, Nice 1 d := fun d hd => by obtain ⟨t, _, rfl⟩ := List.mem_map.mp hd; exact nice_row t
  refine .inr ⟨L, .list (ts.map rowD), rfl, .lst (SqL.of e) ((das_rows w r).dp (canAll fun d hd => (nc d hd).1)), (nice_lst nc).shaped (by decide), by rw [PyData.showable]; exact a1, ?_, q⟩
  have h := PyData.shown_le_bulk 300 (by decide) (PyData.list (ts.map rowD)) (by rw [PyData.leavesShort]; exact a2)
  rw [PyData.bulk] at h
  refine Nat.le_trans h (Nat.le_trans ?_ (show 16777216 ≤ sizeLine by decide))
  omega
/-- what is asked of a row here -/
structure Rb (r : List Int) : Prop where
  ok : okR r
  len : r.length ≤ 13
  sm : nm r < 2 ^ 440
  par : r = [] ∨ ∃ p, okR p ∧ p ≠ [] ∧ p.length ≤ 13 ∧ nm p < 2 ^ 242 ∧ Dv (primeI r) p
theorem fac_small {t p : List Int} (d : Dv t p) (okt : okR t) (nt : t ≠ []) (okp : okR p) (np : p ≠ []) (lp : p.length ≤ 13) (hp : nm p < 2 ^ 242) : nm t < 2 ^ 440 ∧ t.length ≤ 13 := by
  have h := nm_fac2 (n := 12) d okt nt okp np lp (by decide)
  obtain ⟨q, _, nq, lq, _⟩ := d.fac okt nt okp np
  have := List.length_pos_iff.mpr nq
  refine ⟨Nat.lt_of_le_of_lt h ?_, by omega⟩
  have c : (4 * 12 + 3) ^ (2 * 12 + 1) * (2 * 12) ^ 12 < 2 ^ 198 := by decide +kernel
  have e : (4 * 12 + 3) ^ (2 * 12 + 1) * (nm p * (2 * 12) ^ 12) = (4 * 12 + 3) ^ (2 * 12 + 1) * (2 * 12) ^ 12 * nm p := by
    rw [Nat.mul_comm (nm p), ← Nat.mul_assoc]
  rw [e, show (2 : Nat) ^ 440 = 2 ^ 198 * 2 ^ 242 by rw [← Nat.pow_add]]
  generalize (4 * 12 + 3) ^ (2 * 12 + 1) * (2 * 12) ^ 12 = X at c ⊢
  exact Nat.lt_of_le_of_lt (Nat.mul_le_mul_left _ (Nat.le_of_lt hp)) (Nat.mul_lt_mul_of_pos_right c (Nat.pow_pos (by decide)))
theorem dv_prime {r : List Int} (ok : okR r) (ne : r ≠ []) : Dv (primeI r) r := by
  obtain ⟨d, _, _, e⟩ := prime_ev ok ne
  exact ⟨[d], fun x => by rw [e x]; show _ = (d + x * 0) * _; grind⟩
theorem rb_of {r : List Int} (ok : okR r) (l : r.length ≤ 13) (h : nm r < 2 ^ 242) : Rb r := ⟨ok, l, Nat.lt_of_lt_of_le h (Nat.pow_le_pow_right (by decide) (by decide)), by
  by_cases e : r = []
  · exact .inl e
  · exact .inr ⟨r, ok, e, l, h, dv_prime ok e⟩⟩
theorem rb_far {A B G : List Int} (okA : okR A) (okB : okR B) (lA : A.length ≤ 13) (lB : B.length ≤ 13) (hA : nm A < 2 ^ 242) (hB : nm B < 2 ^ 242) (h : Cm A B G) : Rb G := by
  rcases h with ⟨_, _, rfl⟩ | h
  · exact rb_of okR_nil (by simp) (by show 0 < _; exact Nat.pow_pos (by decide))
  · have pG : primeI G = G := prime_lone h.ok h.ne h.lone h.pos
    have key : ∀ p, okR p → p ≠ [] → p.length ≤ 13 → nm p < 2 ^ 242 → Dv G p → Rb G := fun p okp np lp hp d =>
      ⟨h.ok, (fac_small d h.ok h.ne okp np lp hp).2, (fac_small d h.ok h.ne okp np lp hp).1, .inr ⟨p, okp, np, lp, hp, by rw [pG]; exact d⟩⟩
    by_cases nB : B = []
    · have nA : A ≠ [] := fun nA => by
        obtain ⟨c, U, V, c0, e⟩ := h.comb
        exact h.ne (nil_of h.ok fun x => by
          have := e x
          rw [nA, nB, ev_nil, Int.mul_zero, Int.mul_zero] at this
          exact (Int.mul_eq_zero.mp (by omega)).resolve_left c0)
      exact key A okA nA lA hA h.dF
    · exact key B okB nB lB hB h.dR
/-- if B is not nought the common row is no longer than it -/
theorem far_len {A B G : List Int} (okB : okR B) (nB : B ≠ []) (h : Cm A B G) : G.length ≤ B.length := by
  rcases h with ⟨_, z, _⟩ | h
  · exact absurd z nB
  · obtain ⟨q, _, nq, lq, _⟩ := h.dR.fac h.ok h.ne okB nB
    have := List.length_pos_iff.mpr nq
    omega
theorem far_nil {A G : List Int} (okA : okR A) (h : Cm A [] G) : G = primeI A := by
  by_cases nA : A = []
  · subst nA; rw [prime_nil]; exact h.one (.inl ⟨rfl, rfl, rfl⟩)
  · exact h.one (.inr (gc_nil okA nA))
theorem ov_small {A B t : List Int} (rA : Rb A) (okB : okR B) (nB : B ≠ []) (h : Ov A B t) : okR t ∧ nm t < 2 ^ 440 ∧ t.length ≤ 13 := by
  by_cases nA : A = []
  · rw [h.2.1 nA]; exact ⟨okR_nil, Nat.pow_pos (by decide), by simp⟩
  · obtain ⟨nt, _⟩ := h.2.2 nA
    have e := quot_of_ov rA.ok okB nA nB h
    obtain ⟨p, okp, np, lp, hp, d⟩ := rA.par.resolve_left nA
    have d1 : Dv t (primeI A) := ⟨primeI B, fun x => by rw [e x, Int.mul_comm]⟩
    have := fac_small (d1.trans d) h.1 nt okp np lp hp
    exact ⟨h.1, this⟩
theorem few_of {t : List Int} (h : nm t < 2 ^ 440) (l : t.length ≤ 13) : Few t := ⟨Nat.lt_of_lt_of_le h (Nat.pow_le_pow_right (by decide) (by decide)), by omega⟩
theorem Rb.few {t : List Int} (h : Rb t) : Few t := few_of h.sm h.len
theorem pl_small {r t : List Int} (h : Rb r) (p : Pl r t) : okR t ∧ Few t := by
  obtain ⟨G, hG, ov⟩ := p
  have := ov_small h hG.ok hG.ne ov
  exact ⟨this.1, few_of this.2.1 this.2.2⟩
open Classical in
/-- the plain row -/
noncomputable def plI (r : List Int) : List Int := if h : ∃ t, Pl r t then Classical.choose h else []
theorem pl_eq {r t : List Int} (h : Pl r t) : plI r = t := by
  have e : ∃ t, Pl r t := ⟨t, h⟩
  unfold plI
  rw [dif_pos e]
  exact (Classical.choose_spec e).one h
theorem lc_filtR {K : PySem.W.Frag} {wi : TI} {tt : TT} {te : TE} {vs : List Nat} {σ : L2.St} {H : Hp} {Q : VK} {j : Nat} {rs : List (List Int)} (f : List Int → Bool)
    (hi : ∀ R : It → Hp → Prop, (∀ p xs H1, Same H H1 → H1 p = some (.tup xs) → RoA H1 xs rs → R (Itt K p) H1) → wi σ H R)
    (hl : rs.length ≤ 1000) (hw : ∀ x, wipe ((wipe σ vs).set j (some x)) vs = wipe σ vs)
    (ht : ∀ x r H1, r ∈ rs → Same H H1 → Ro H1 x r → ∀ R : Bool → Hp → Prop, (∀ H2, Same H1 H2 → R (f r) H2) → tt ((wipe σ vs).set j (some x)) H1 R)
    (he : ∀ x H1 (R : VK), R x H1 → te ((wipe σ vs).set j (some x)) H1 R)
    (q : ∀ D ys H', Same H H' → H' D = some (.lst ys) → RoA H' ys (rs.filter f) → Q (.ref D) H') : tLc wi (gName j) tt te vs σ H Q := by
  refine hi _ fun p xs H1 s1 hp hx D hD => ?_
  refine lc_tup (xs := xs) (fun m H' => Same H1 H' ∧ ∃ zs, H' D = some (.lst zs) ∧ RoA H' zs ((rs.take m).filter f)) ⟨same_new hD, [], upd_same, .nil _⟩ (fun m H' _ h => SqT.of (h.1 _ _ hp)) (fun m x H2 hxm h => ?_) (fun H' h => ?_)
  · obtain ⟨h1, zs, h2, h3⟩ := h
    obtain ⟨r, e1, e2⟩ := hx.2 m x hxm
    have et : (rs.take (m + 1)).filter f = (rs.take m).filter f ++ (if f r then [r] else []) := by
      rw [List.take_add_one, e1, List.filter_append]
      congr 1
      cases hf : f r <;> simp [hf]
    refine ⟨hw _, ht x r H2 (List.mem_of_getElem? e1) (s1.trans h1) (e2.kt (Kt.of h1)) _ fun H3 s3 => ?_⟩
    cases hf : f r with
    | true =>
      have s4 := same_upd (o := .lst (zs ++ [x])) (h1.trans s3) hD
      refine iteT (he x H3 _ ⟨_, s3 _ _ h2, ?_, s4, _, upd_same, ?_⟩)
      · have := List.length_filter_le f (rs.take m)
        rw [List.length_take] at this
        rw [h3.1]
        exact lt_line (by omega)
      · rw [et, hf, if_pos rfl]
        exact (h3.kt ((Kt.of s3).trans (kt_upd (s3 _ _ h2)))).snoc (e2.kt (Kt.of s4))
    | false =>
      refine iteF ⟨h1.trans s3, zs, s3 _ _ h2, ?_⟩
      rw [et, hf, if_neg Bool.false_ne_true, List.append_nil]
      exact h3.kt (Kt.of s3)
  · obtain ⟨h1, zs, h2, h3⟩ := h
    rw [hx.1, List.take_length] at h3
    exact q D zs H' (s1.trans h1) h2 h3
theorem room_ok {a b : Nat} (h2 : a ≤ 13) (h : b ≤ 9) : 2 * ((a - b + 2) * (242 + 1) * Pe b) ≤ 134000000 := by
  have pm := Pe_mono h
  have p9 : Pe 9 = 1393 := by decide
  rw [p9] at pm
  generalize Pe b = X at pm ⊢
  have : (a - b + 2) * (242 + 1) * X ≤ 15 * (242 + 1) * 1393 := Nat.mul_le_mul (Nat.mul_le_mul_right _ (by omega)) pm
  omega
theorem room_plain {a : Nat} (h : a ≤ 13) : 6 * ((440 + 9) * Pe (a - 1)) ≤ 134000000 := by
  have pm := Pe_mono (k := a - 1) (j := 12) (by omega)
  have p9 : Pe 12 = 19601 := by decide
  rw [p9] at pm
  generalize Pe (a - 1) = X at pm ⊢
  omega
def spRight : Sp := fun vs H Q _ => ∃ a, vs = [.ref a] ∧ We a H ∧ ∀ H', Kp a H H' → Q (.bl true) H'
section
variable {P : Program} {w : World} {K : PySem.W.Frag} {mg : Str → Option Value} {base : Heap}
theorem scRight : FnScope ["_law_well_here", "_law_seat", "_law_one", "_law_two", "_law_far", "_law_told", "_law_here", "_law_there", "_law_some", "_law_each"] ["_law_well_here"] (defScope sRight) := ⟨rfl, rfl, rfl, by decide +kernel, rfl, by decide +kernel, by decide +kernel⟩
theorem ok_right (D : Def K mg "_law_right" sRight ["_law_well_here"]) (nb : Nb mg) (cm : Cal P w K mg base "_law_made" 36 ["_law_well_here"] spMade) (cs : Cal P w K mg base "_law_scaled" 2 ["_law_line_here", "_law_by"] spLScaled) (cp : Cal P w K mg base "_law_product" 2 ["_law_one", "_law_two"] spProd)
    (cd : Cal P w K mg base "_law_draw" 1 ["_law_well_here", "_law_few"] spDraw) (ch : Cal P w K mg base "_law_shared" 35 ["_law_one", "_law_two"] spLShared) (cc : Cal P w K mg base "common" 36 ["row", "other"] spApCommon) (co : Cal P w K mg base "over" 35 ["row", "other"] spApOver)
    (clo : Cal P w K mg base "_law_over" 35 ["_law_one", "_law_two"] spOver) (cti : Cal P w K mg base "times" 5 ["row", "other"] spApTimes) (cpr : Cal P w K mg base "_law_prime" 34 ["_law_line_here"] spPrime) (cpl : Cal P w K mg base "plain" 37 ["row"] spApPlain) (clp : Cal P w K mg base "_law_plain" 36 ["_law_line_here"] spPlainL) :
    CalG P w K mg base "_law_right" 40 ["_law_well_here"] spRight := by
  refine D.okG scRight (fun vs H Q E h => ?_) (fun f cdv A out s H vs Q E hq hr h => ?_)
  · obtain ⟨a, rfl, _⟩ := h; rfl
  obtain ⟨a, rfl, hw, q⟩ := h
  have hu : (A.deeper (envOfC "_law_right" (defScope sRight) s.heap.objs.size f cdv)).units + 70 < cLine := by have := hr.un; omega
  refine ⟨_, Evl.pss_cut (ps_par3 (i := 1) (j := 2) (l := 3) rfl scRight.nd rfl rfl rfl (by decide) (by decide) (by decide) rfl rfl rfl (pa_cons (pe_cal cm hr (by omega) (by rfl) (pa_cons (pv 0) pa_nil)) (pa_cons (pe_cal cm hr (by omega) (by rfl) (pa_cons (pv 0) pa_nil)) (pa_cons (pe_cal cm hr (by omega) (by rfl) (pa_cons (pv 0) pa_nil)) pa_nil))) rfl)
    (Evl.pss_cut (ps_set (i := 2) scRight.nd rfl (Or.inl rfl) (pe_cal cs hr (by omega) (by rfl) (pa_cons (pe_cal cp hr (by omega) (by rfl) (pa_cons (pv 2) (pa_cons (pv 1) pa_nil))) (pa_cons (pe_op op_add pe_int (pe_cal cd hr (by omega) (by rfl) (pa_cons (pv 0) (pa_cons pe_int pa_nil)))) pa_nil))))
    (Evl.pss_cut (ps_set (i := 3) scRight.nd rfl (Or.inl rfl) (pe_cal cs hr (by omega) (by rfl) (pa_cons (pe_cal cp hr (by omega) (by rfl) (pa_cons (pv 3) (pa_cons (pv 1) pa_nil))) (pa_cons (pe_op op_sub (pe_op op_sub pe_int pe_int) (pe_cal cd hr (by omega) (by rfl) (pa_cons (pv 0) (pa_cons pe_int pa_nil)))) pa_nil))))
    (Evl.pss_cut (ps_set (i := 2) scRight.nd rfl (Or.inl rfl) (pe_ifExp (pt_cmpR op_eq (pe_cal cd hr (by omega) (by rfl) (pa_cons (pv 0) (pa_cons pe_int pa_nil))) pe_int (nomark _)) (pe_cal cp hr (by omega) (by rfl) (pa_cons (pv 2) (pa_cons (pv 1) pa_nil))) (pv 2)))
    (Evl.pss_cut (ps_set (i := 4) scRight.nd rfl (Or.inl rfl) (pe_cal ch hr (by omega) (by rfl) (pa_cons (pv 2) (pa_cons (pv 3) pa_nil))))
    (Evl.pss_cut (ps_set (i := 5) scRight.nd rfl (Or.inl rfl) (pe_lst (pa_cons (pe_cal cc hr (by omega) (by rfl) (pa_cons (pv 2) (pa_cons (pv 3) pa_nil))) (pa_cons (pe_cal cc hr (by omega) (by rfl) (pa_cons (pv 3) (pa_cons (pv 2) pa_nil))) pa_nil))))
    (Evl.pss_cut (ps_if (pt_cmpR op_ne (pe_callB (id := "repr") (r := rShowN K) (call_showN hq hu) (by rfl) nb.repr (by decide +kernel) (pa_cons (pv 5) pa_nil)) (pe_callB (id := "repr") (r := rShowN K) (call_showN hq hu) (by rfl) nb.repr (by decide +kernel) (pa_cons (pe_lst (pa_cons (pv 4) (pa_cons (pv 4) pa_nil))) pa_nil)) (nomark _))
      (pss_one (ps_ret pe_bl))
      (pss_nil))
    (Evl.pss_cut (ps_for PassesOwn.never rfl (pi_tup (pe_tup (pa_cons (pe_tup (pa_cons (pv 2) (pa_cons (pv 3) pa_nil))) (pa_cons (pe_tup (pa_cons (pv 3) (pa_cons (pv 2) pa_nil))) (pa_cons (pe_tup (pa_cons (pv 2) (pa_cons (pv 1) pa_nil))) (pa_cons (pe_tup (pa_cons (pv 4) (pa_cons (pv 1) pa_nil))) (pa_cons (pe_tup (pa_cons (pv 2) (pa_cons (pv 4) pa_nil))) (pa_cons (pe_tup (pa_cons (pv 1) (pa_cons (pv 2) pa_nil))) pa_nil)))))))) (pg_tup rfl (pgs_cons (pg_name (i := 6) scRight.nd rfl (Or.inl rfl)) (pgs_cons (pg_name (i := 7) scRight.nd rfl (Or.inl rfl)) pgs_nil)))
      (pss_one (ps_if (PW.pt (pw_and (pt_cmpR (op_neT0 hr.units) (pv 7) (pe_tup pa_nil) (nomark _)) (pw_and1 (pt_cmpR op_ne (pe_callB (id := "repr") (r := rShowN K) (call_showN hq hu) (by rfl) nb.repr (by decide +kernel) (pa_cons (pe_cal co hr (by omega) (by rfl) (pa_cons (pv 6) (pa_cons (pv 7) pa_nil))) pa_nil)) (pe_callB (id := "repr") (r := rShowN K) (call_showN hq hu) (by rfl) nb.repr (by decide +kernel) (pa_cons (pe_cal clo hr (by omega) (by rfl) (pa_cons (pv 6) (pa_cons (pv 7) pa_nil))) pa_nil)) (nomark _)))))
      (pss_one (ps_ret pe_bl))
      (pss_nil))))
    (Evl.pss_cut (ps_for PassesOwn.never rfl (pi_tup (pe_tup (pa_cons (pe_tup (pa_cons (pv 2) (pa_cons (pv 1) pa_nil))) (pa_cons (pe_tup (pa_cons (pv 1) (pa_cons (pv 3) pa_nil))) pa_nil)))) (pg_tup rfl (pgs_cons (pg_name (i := 6) scRight.nd rfl (Or.inl rfl)) (pgs_cons (pg_name (i := 7) scRight.nd rfl (Or.inl rfl)) pgs_nil)))
      (pss_one (ps_if (PW.pt (pw_and (pt_cmpR (op_neT0 hr.units) (pv 7) (pe_tup pa_nil) (nomark _)) (pw_and1 (pt_cmpR op_ne (pe_callB (id := "repr") (r := rShowN K) (call_showN hq hu) (by rfl) nb.repr (by decide +kernel) (pa_cons (pe_cal co hr (by omega) (by rfl) (pa_cons (pe_cal cti hr (by omega) (by rfl) (pa_cons (pv 6) (pa_cons (pv 7) pa_nil))) (pa_cons (pv 7) pa_nil))) pa_nil)) (pe_callB (id := "repr") (r := rShowN K) (call_showN hq hu) (by rfl) nb.repr (by decide +kernel) (pa_cons (pe_cal cpr hr (by omega) (by rfl) (pa_cons (pv 6) pa_nil)) pa_nil)) (nomark _)))))
      (pss_one (ps_ret pe_bl))
      (pss_nil))))
    (Evl.pss_cut (ps_setLc (i := 8) (own := [("_law_each", 9)]) (g := gName 9) (tt := _) rfl scRight.nd rfl rfl (by rfl) (pi_tup (pe_tup (pa_cons (pv 2) (pa_cons (pv 3) (pa_cons (pv 1) (pa_cons (pv 4) pa_nil)))))) (blkOk_by (N := ["_law_well_here", "_law_seat", "_law_one", "_law_two", "_law_far", "_law_told", "_law_here", "_law_there", "_law_some", "_law_each"]) (sc := defScope sRight) (by decide +kernel)) (fun _ _ _ _ _ => pg_name (i := 9) scRight.nd rfl (Or.inl rfl)) (fun _ _ _ _ _ => pts_one (pt_cmpR (r := rT0 true K) (op_neT0 hr.units) (pv 9) (pe_tup pa_nil) (nomark _))) (fun _ _ _ _ _ => (pv 9)))
    (pss_one (ps_ret (pe_cmpR op_eq (pe_callB (id := "repr") (r := rShowN K) (call_showN hq hu) (by rfl) nb.repr (by decide +kernel) (pa_cons (pe_lc (own := [("_law_each", 9)]) (g := gName 9) (tt := tYes) rfl scRight.nd (pi_list (pv 8)) (blkOk_by (N := ["_law_well_here", "_law_seat", "_law_one", "_law_two", "_law_far", "_law_told", "_law_here", "_law_there", "_law_some", "_law_each"]) (sc := defScope sRight) (by decide +kernel)) (fun _ _ _ _ _ => pg_name (i := 9) scRight.nd rfl (Or.inl rfl)) (fun _ _ _ _ _ => pts_nil) (fun _ _ _ _ _ => (pe_cal cpl hr (by omega) (by rfl) (pa_cons (pv 9) pa_nil)))) pa_nil)) (pe_callB (id := "repr") (r := rShowN K) (call_showN hq hu) (by rfl) nb.repr (by decide +kernel) (pa_cons (pe_lc (own := [("_law_each", 9)]) (g := gName 9) (tt := tYes) rfl scRight.nd (pi_list (pv 8)) (blkOk_by (N := ["_law_well_here", "_law_seat", "_law_one", "_law_two", "_law_far", "_law_told", "_law_here", "_law_there", "_law_some", "_law_each"]) (sc := defScope sRight) (by decide +kernel)) (fun _ _ _ _ _ => pg_name (i := 9) scRight.nd rfl (Or.inl rfl)) (fun _ _ _ _ _ => pts_nil) (fun _ _ _ _ _ => (pe_cal clp hr (by omega) (by rfl) (pa_cons (pv 9) pa_nil)))) pa_nil)) (nomark _))))))))))))), ?_⟩
  walk_at "rd"
  -- the rows
  refine ⟨fun σ H' => ∃ (x y z : V) (S A B : List Int), σ = [some (.ref a), some x, some y, some z, none, none, none, none, none, none] ∧ Kp a H H' ∧ We a H' ∧ Ro H' x S ∧ Ro H' y A ∧ Ro H' z B ∧ okR S ∧ okR A ∧ okR B ∧ S.length ≤ 5 ∧ A.length ≤ 5 ∧ B.length ≤ 5 ∧ nm S < 2 ^ 80 ∧ nm A < 2 ^ 80 ∧ nm B < 2 ^ 80, ?_, ?_⟩
  · exact ⟨.ref a, rfl, a, rfl, hw, fun x S H1 k1 w1 rx okx lx nx => ⟨.ref a, rfl, a, rfl, w1, fun y A H2 k2 w2 ry oky ly ny => ⟨.ref a, rfl, a, rfl, w2, fun z B H3 k3 w3 rz okz lz nz =>
      ⟨_, _, _, rfl, x, y, z, S, A, B, rfl, k1.trans (k2.trans k3), w3, (rx.kp w1 k2).kp w2 k3, ry.kp w2 k3, rz, okx, oky, okz, lx, ly, lz, nx, ny, nz⟩⟩⟩⟩
  rintro σ1 H1 ⟨x, y, z, S, A, B, rfl, k1, w1, rx, ry, rz, okS, okA, okB, lS, lA, lB, nS, nA, nB⟩
  refine ⟨fun σ H' => ∃ (y : V) (A : List Int), σ = [some (.ref a), some x, some y, some z, none, none, none, none, none, none] ∧ Kp a H H' ∧ We a H' ∧ Ro H' x S ∧ Ro H' y A ∧ Ro H' z B ∧ okR A ∧ A.length ≤ 9 ∧ nm A < 2 ^ 162, ?_, ?_⟩
  · refine ⟨y, rfl, x, rfl, y, x, A, S, rfl, ry, rx, by omega, by omega, cm_of nA nS (by omega), fun u t H2 s2 ru okt gt => ⟨.ref a, rfl, a, _, rfl, w1.to s2, by omega, by omega, fun d H3 d0 d1 k3 w3 => ?_⟩⟩
    have lt := prod_len okt gt
    have nt := prod_nm okt gt
    refine ⟨_, _, rfl, rfl, u, t, _, rfl, ru.kp (w1.to s2) k3, by omega, by omega, fun u2 t2 H4 s4 ru2 ok2 g2 => ?_⟩
    have w2 := w1.to s2
    refine ⟨u2, t2, rfl, k1.trans ((Kp.of s2).trans (k3.trans (Kp.of s4))), w3.to s4, ((rx.kt (Kt.of s2)).kp w2 k3).kt (Kt.of s4), ru2, ((rz.kt (Kt.of s2)).kp w2 k3).kt (Kt.of s4), ok2, Nat.le_trans (scl_len ok2 g2) (by omega), ?_⟩
    have n2 := scl_nm ok2 g2
    have a1 : nm A * nm S < 2 ^ 80 * 2 ^ 80 := Nat.lt_of_le_of_lt (Nat.mul_le_mul_right _ (Nat.le_of_lt nA)) (Nat.mul_lt_mul_of_pos_left nS (Nat.pow_pos (by decide)))
    have a2 : (1 + d).natAbs * nm t ≤ 3 * nm t := Nat.mul_le_mul_right _ (by omega)
    omega
  rintro σ2 H2 ⟨y, A, rfl, k2, w2, rx, ry, rz, okA, lA, nA⟩
  refine ⟨fun σ H' => ∃ (z : V) (B : List Int), σ = [some (.ref a), some x, some y, some z, none, none, none, none, none, none] ∧ Kp a H H' ∧ We a H' ∧ Ro H' x S ∧ Ro H' y A ∧ Ro H' z B ∧ okR B ∧ B.length ≤ 9 ∧ nm B < 2 ^ 162, ?_, ?_⟩
  · refine ⟨z, rfl, x, rfl, z, x, B, S, rfl, rz, rx, by omega, by omega, cm_of nB nS (by omega), fun u t H3 s3 ru okt gt => ⟨_, _, rfl, rfl, .ref a, rfl, a, _, rfl, w2.to s3, by omega, by omega, fun d H4 d0 d1 k4 w4 => ?_⟩⟩
    have lt := prod_len okt gt
    have nt := prod_nm okt gt
    have w3 := w2.to s3
    refine ⟨_, _, rfl, rfl, u, t, _, rfl, ru.kp w3 k4, by omega, by omega, fun u2 t2 H5 s5 ru2 ok2 g2 => ?_⟩
    refine ⟨u2, t2, rfl, k2.trans ((Kp.of s3).trans (k4.trans (Kp.of s5))), w4.to s5, ((rx.kt (Kt.of s3)).kp w3 k4).kt (Kt.of s5), ((ry.kt (Kt.of s3)).kp w3 k4).kt (Kt.of s5), ru2, ok2, Nat.le_trans (scl_len ok2 g2) (by omega), ?_⟩
    have n2 := scl_nm ok2 g2
    have a1 : nm B * nm S < 2 ^ 80 * 2 ^ 80 := Nat.lt_of_le_of_lt (Nat.mul_le_mul_right _ (Nat.le_of_lt nB)) (Nat.mul_lt_mul_of_pos_left nS (Nat.pow_pos (by decide)))
    have a2 : (0 - 1 - d).natAbs * nm t ≤ 3 * nm t := Nat.mul_le_mul_right _ (by omega)
    omega
  rintro σ3 H3 ⟨z, B, rfl, k3, w3, rx, ry, rz, okB, lB, nB⟩
  refine ⟨fun σ H' => ∃ (y : V) (A : List Int), σ = [some (.ref a), some x, some y, some z, none, none, none, none, none, none] ∧ Kp a H H' ∧ We a H' ∧ Ro H' x S ∧ Ro H' y A ∧ Ro H' z B ∧ okR A ∧ A.length ≤ 13 ∧ nm A < 2 ^ 242, ?_, ?_⟩
  · refine ⟨.ref a, rfl, a, _, rfl, w3, by omega, by omega, fun d H4 d0 d1 k4 w4 => ⟨rfl, _, rfl, ite2 (fun _ => ?_) (fun _ => ?_)⟩⟩
    · refine ⟨y, rfl, x, rfl, y, x, A, S, rfl, ry.kp w3 k4, rx.kp w3 k4, by omega, by omega, cm_of nA nS (by omega), fun u t H5 s5 ru okt gt => ?_⟩
      have lt := prod_len okt gt
      have nt := prod_nm okt gt
      have a1 : nm A * nm S < 2 ^ 162 * 2 ^ 80 := Nat.lt_of_le_of_lt (Nat.mul_le_mul_right _ (Nat.le_of_lt nA)) (Nat.mul_lt_mul_of_pos_left nS (Nat.pow_pos (by decide)))
      exact ⟨u, t, rfl, k3.trans (k4.trans (Kp.of s5)), w4.to s5, (rx.kp w3 k4).kt (Kt.of s5), ru, (rz.kp w3 k4).kt (Kt.of s5), okt, by omega, by omega⟩
    · exact ⟨y, rfl, y, A, rfl, k3.trans k4, w4, rx.kp w3 k4, ry.kp w3 k4, rz.kp w3 k4, okA, by omega, by omega⟩
  rintro σ4 H4 ⟨y, A, rfl, k4, w4, rx, ry, rz, okA, lA, nA⟩
  have nB2 : nm B < 2 ^ 242 := Nat.lt_of_lt_of_le nB (Nat.pow_le_pow_right (by decide) (by decide))
  refine ⟨fun σ H' => ∃ (v : V) (G : List Int), σ = [some (.ref a), some x, some y, some z, some v, none, none, none, none, none] ∧ Same H4 H' ∧ Ro H' v G ∧ Cm A B G, ?_, ?_⟩
  · have room := room_ok (a := A.length) (b := B.length) lA lB
    exact ⟨y, rfl, z, rfl, y, z, A, B, 242, rfl, ry, rz, okA, okB, nA, nB2, by omega, by omega, room, fun v G H5 s5 rv c => ⟨v, G, rfl, s5, rv, c⟩⟩
  rintro σ5 H5 ⟨v, G, rfl, s5, rv, cG⟩
  have rbA := rb_of okA lA nA
  have rbB := rb_of okB (by omega) nB2
  have rbS := rb_of okS (by omega) (Nat.lt_of_lt_of_le nS (Nat.pow_le_pow_right (by decide) (by decide)))
  have rbG := rb_far okA okB lA (by omega) nA nB2 cG
  have k5 := k4.trans (Kp.of s5)
  have w5 := w4.to s5
  have rx := rx.kt (Kt.of s5)
  have ry := ry.kt (Kt.of s5)
  have rz := rz.kt (Kt.of s5)
  refine ⟨fun σ H' => ∃ (T : Addr) (u1 u2 : V), σ = [some (.ref a), some x, some y, some z, some v, some (.ref T), none, none, none, none] ∧ Same H5 H' ∧ H' T = some (.lst [u1, u2]) ∧ Ro H' u1 G ∧ Ro H' u2 G, ?_, ?_⟩
  · refine ⟨y, rfl, z, rfl, a, y, z, A, B, 242, rfl, w5, ry, rz, okA, okB, nA, nB2, by omega, by omega, by omega, fun u1 G1 H6 s6 r1 c1 => ?_⟩
    refine ⟨z, rfl, y, rfl, a, z, y, B, A, 242, rfl, w5.to s6, rz.kt (Kt.of s6), ry.kt (Kt.of s6), okB, okA, nB2, nA, by omega, by omega, by omega, fun u2 G2 H7 s7 r2 c2 => ⟨sz (by simp), fun T nT => ?_⟩⟩
    have e1 : G1 = G := c1.one cG
    have e2 : G2 = G := Cm.one c2 (by
      rcases cG with ⟨a1, a2, a3⟩ | h
      · exact .inl ⟨a2, a1, a3⟩
      · exact .inr h.symm)
    subst e1 e2
    have s8 := same_new (o := .lst [u1, u2]) nT
    exact ⟨T, u1, u2, rfl, s6.trans (s7.trans s8), upd_same, r1.kt (Kt.of (s7.trans s8)), r2.kt (Kt.of s8)⟩
  rintro σ6 H6 ⟨T, u1, u2, rfl, s6, eT, ru1, ru2⟩
  have two : ∀ {H' : Hp} {p q : V}, Ro H' p G → Ro H' q G → RoA H' [p, q] [G, G] := fun r1 r2 => (RoA.nil _).snoc r1 |>.snoc r2
  have fewG : ∀ t ∈ [G, G], Few t := fun t ht => by simp at ht; rw [ht]; exact rbG.few
  refine ⟨fun σ H' => σ = [some (.ref a), some x, some y, some z, some v, some (.ref T), none, none, none, none] ∧ Same H5 H', ?_, ?_⟩
  · refine ⟨.ref T, rfl, show_rows (w5.to s6) eT (two ru1 ru2) fewG (by simp) ⟨v, rfl, v, rfl, sz (by simp), fun L nL => ?_⟩⟩
    have s7 := same_new (o := .lst [v, v]) nL
    have rv7 := rv.kt (Kt.of (s6.trans s7))
    refine show_rows (w5.to (s6.trans s7)) upd_same (two rv7 rv7) fewG (by simp) ⟨rfl, _, rfl, ?_⟩
    rw [decide_eq_true rfl]
    exact iteF ⟨rfl, s6.trans s7⟩
  rintro σ7 H7 ⟨rfl, s7⟩
  have w7 := w5.to s7
  have rx := rx.kt (Kt.of s7)
  have ry := ry.kt (Kt.of s7)
  have rz := rz.kt (Kt.of s7)
  have rv := rv.kt (Kt.of s7)
  -- one row over another
  refine ⟨fun σ H' => ∃ x6 x7, σ = [some (.ref a), some x, some y, some z, some v, some (.ref T), x6, x7, none, none] ∧ Same H7 H', ?_, ?_⟩
  · refine ⟨y, rfl, z, rfl, sz (by simp), fun p1 n1 => ⟨z, rfl, y, rfl, sz (by simp), fun p2 n2 => ⟨y, rfl, x, rfl, sz (by simp), fun p3 n3 => ⟨v, rfl, x, rfl, sz (by simp), fun p4 n4 => ⟨y, rfl, v, rfl, sz (by simp), fun p5 n5 => ⟨x, rfl, y, rfl, sz (by simp), fun p6 n6 => ⟨sz (by simp), fun pp np => ?_⟩⟩⟩⟩⟩⟩⟩
    have t1 := same_new (o := .tup [y, z]) n1
    have t2 := same_new (o := .tup [z, y]) n2
    have t3 := same_new (o := .tup [y, x]) n3
    have t4 := same_new (o := .tup [v, x]) n4
    have t5 := same_new (o := .tup [y, v]) n5
    have t6 := same_new (o := .tup [x, y]) n6
    have t7 := same_new (o := .tup [.ref p1, .ref p2, .ref p3, .ref p4, .ref p5, .ref p6]) np
    have e1 := (t2.trans (t3.trans (t4.trans (t5.trans (t6.trans t7))))) _ _ (upd_same (H := H7) (a := p1) (o := .tup [y, z]))
    have e2 := (t3.trans (t4.trans (t5.trans (t6.trans t7)))) _ _ (upd_same (H := _) (a := p2) (o := .tup [z, y]))
    have e3 := (t4.trans (t5.trans (t6.trans t7))) _ _ (upd_same (H := _) (a := p3) (o := .tup [y, x]))
    have e4 := (t5.trans (t6.trans t7)) _ _ (upd_same (H := _) (a := p4) (o := .tup [v, x]))
    have e5 := (t6.trans t7) _ _ (upd_same (H := _) (a := p5) (o := .tup [y, v]))
    have e6 := t7 _ _ (upd_same (H := _) (a := p6) (o := .tup [x, y]))
    have s8 := t1.trans (t2.trans (t3.trans (t4.trans (t5.trans (t6.trans t7)))))
    refine ⟨pp, rfl, ⟨_, SqT.of upd_same⟩, ?_⟩
    generalize hH8 : upd _ pp _ = H8 at e1 e2 e3 e4 e5 e6 s8 ⊢
    have epp : H8 pp = some (.tup [.ref p1, .ref p2, .ref p3, .ref p4, .ref p5, .ref p6]) := by rw [← hH8]; exact upd_same
    clear t1 t2 t3 t4 t5 t6 t7 hH8
    have rx := rx.kt (Kt.of s8)
    have ry := ry.kt (Kt.of s8)
    have rz := rz.kt (Kt.of s8)
    have rv := rv.kt (Kt.of s8)
    have w8 := w7.to s8
    have prs : ∀ (i : Nat) u, [V.ref p1, V.ref p2, V.ref p3, V.ref p4, V.ref p5, V.ref p6][i]? = some u → ∃ (p : Addr) (u1 u2 : V) (R1 R2 : List Int), u = .ref p ∧ H8 p = some (.tup [u1, u2]) ∧ Ro H8 u1 R1 ∧ Ro H8 u2 R2 ∧ Rb R1 ∧ Rb R2 := fun i u hi => by
      match i, hi with
      | 0, h => cases h; exact ⟨p1, y, z, A, B, rfl, e1, ry, rz, rbA, rbB⟩
      | 1, h => cases h; exact ⟨p2, z, y, B, A, rfl, e2, rz, ry, rbB, rbA⟩
      | 2, h => cases h; exact ⟨p3, y, x, A, S, rfl, e3, ry, rx, rbA, rbS⟩
      | 3, h => cases h; exact ⟨p4, v, x, G, S, rfl, e4, rv, rx, rbG, rbS⟩
      | 4, h => cases h; exact ⟨p5, y, v, A, G, rfl, e5, ry, rv, rbA, rbG⟩
      | 5, h => cases h; exact ⟨p6, x, y, S, A, rfl, e6, rx, ry, rbS, rbA⟩
      | _ + 6, h => simp at h
    refine for_tup (xs := [V.ref p1, V.ref p2, V.ref p3, V.ref p4, V.ref p5, V.ref p6]) (fun i σ H' => ∃ x6 x7, σ = [some (.ref a), some x, some y, some z, some v, some (.ref T), x6, x7, none, none] ∧ Same H8 H') ⟨none, none, rfl, Same.refl _⟩ ?_ ?_ ?_
    · rintro i σ H9 hi ⟨x6, x7, rfl, s9⟩
      exact SqT.of (s9 _ _ epp)
    · rintro i u σ H9 hu' ⟨x6, x7, rfl, s9⟩
      obtain ⟨p, u1, u2, R1, R2, rfl, ep, r1, r2, b1, b2⟩ := prs i u hu'
      refine ⟨p, _, rfl, SqT.of (s9 _ _ ep), rfl, _, _, rfl, _, _, rfl, rfl, ?_⟩
      have r1 := r1.kt (Kt.of s9)
      have r2 := r2.kt (Kt.of s9)
      obtain ⟨q2, rfl, eq2⟩ := r2
      refine ⟨.ref q2, rfl, sz (by simp), fun t nt => ?_⟩
      have s10 := same_new (o := .tup []) nt
      refine ⟨q2, t, R2.map V.int, [], rfl, rfl, SqT.of (s10 _ _ eq2), SqT.of upd_same, rfl, _, rfl, ?_⟩
      have r1 := r1.kt (Kt.of s10)
      have r2 : Ro (upd H9 t (.tup [])) (.ref q2) R2 := ⟨q2, rfl, s10 _ _ eq2⟩
      have s10 := s9.trans s10
      generalize upd H9 t (.tup []) = H10 at s10 r1 r2 ⊢
      have emp : (R2.map V.int).isEmpty = R2.isEmpty := by cases R2 <;> rfl
      rw [emp]
      have w10 := w8.to s10
      by_cases n2 : R2 = []
      · subst n2
        exact iteF (iteF ⟨_, _, rfl, s10⟩)
      rw [show (!R2.isEmpty) = true by cases R2 with | nil => exact absurd rfl n2 | cons a l => rfl]
      refine iteT ⟨_, rfl, .ref q2, rfl, a, u1, .ref q2, R1, R2, 440, rfl, w10, r1, r2, b1.ok, b2.ok, n2, b1.sm, b2.sm, by omega, by have := b1.len; omega, by have := b2.len; omega, fun z1 t1 H11 s11 rz1 ov1 => ?_, fun no H11 s11 => ?_⟩
      · obtain ⟨ok1, sm1, ln1⟩ := ov_small b1 b2.ok n2 ov1
        refine show_row (w10.to s11) rz1 (few_of sm1 ln1) ⟨_, rfl, .ref q2, rfl, u1, .ref q2, R1, R2, 440, 440, rfl, r1.kt (Kt.of s11), r2.kt (Kt.of s11), b1.ok, b2.ok, n2, b1.sm, b2.sm, by have := b1.len; omega, by have := b2.len; omega, by have := b1.len; omega, fun z2 t2 H12 s12 rz2 ov2 => ?_, fun no => absurd ⟨t1, ov1⟩ no⟩
        have e := ov2.one b2.ok n2 ov1
        subst e
        refine show_row (w10.to (s11.trans s12)) rz2 (few_of sm1 ln1) ⟨rfl, _, rfl, ?_⟩
        rw [decide_eq_true rfl]
        exact iteF ⟨_, _, rfl, s10.trans (s11.trans s12)⟩
      · refine .inl ⟨rfl, _, rfl, .ref q2, rfl, u1, .ref q2, R1, R2, 440, 440, rfl, r1.kt (Kt.of s11), r2.kt (Kt.of s11), b1.ok, b2.ok, n2, b1.sm, b2.sm, by have := b1.len; omega, by have := b2.len; omega, by have := b1.len; omega, fun z2 t2 H12 s12 rz2 ov2 => absurd ⟨t2, ov2⟩ no, fun no H12 s12 => .inl ⟨rfl, rfl, _, rfl, ?_⟩⟩
        rw [decide_eq_true rfl]
        exact iteF ⟨_, _, rfl, s10.trans (s11.trans s12)⟩
    · rintro σ H9 ⟨x6, x7, rfl, s9⟩
      exact ⟨x6, x7, rfl, s8.trans s9⟩
  rintro σ8 H8 ⟨x6, x7, rfl, s8⟩
  have w8 := w7.to s8
  have rx := rx.kt (Kt.of s8)
  have ry := ry.kt (Kt.of s8)
  have rz := rz.kt (Kt.of s8)
  have rv := rv.kt (Kt.of s8)
  -- a product over one factor
  refine ⟨fun σ H' => ∃ x6 x7, σ = [some (.ref a), some x, some y, some z, some v, some (.ref T), x6, x7, none, none] ∧ Same H8 H', ?_, ?_⟩
  · refine ⟨y, rfl, x, rfl, sz (by simp), fun p1 n1 => ⟨x, rfl, z, rfl, sz (by simp), fun p2 n2 => ⟨sz (by simp), fun pp np => ?_⟩⟩⟩
    have t1 := same_new (o := .tup [y, x]) n1
    have t2 := same_new (o := .tup [x, z]) n2
    have t7 := same_new (o := .tup [.ref p1, .ref p2]) np
    have e1 := (t2.trans t7) _ _ (upd_same (H := H8) (a := p1) (o := .tup [y, x]))
    have e2 := t7 _ _ (upd_same (H := _) (a := p2) (o := .tup [x, z]))
    have s9 := t1.trans (t2.trans t7)
    refine ⟨pp, rfl, ⟨_, SqT.of upd_same⟩, ?_⟩
    generalize hH9 : upd _ pp _ = H9 at e1 e2 s9 ⊢
    have epp : H9 pp = some (.tup [.ref p1, .ref p2]) := by rw [← hH9]; exact upd_same
    clear t1 t2 t7 hH9
    have rx := rx.kt (Kt.of s9)
    have ry := ry.kt (Kt.of s9)
    have rz := rz.kt (Kt.of s9)
    have w9 := w8.to s9
    have nS2 : nm S < 2 ^ 242 := Nat.lt_of_lt_of_le nS (Nat.pow_le_pow_right (by decide) (by decide))
    have prs : ∀ (i : Nat) u, [V.ref p1, V.ref p2][i]? = some u → ∃ (p : Addr) (u1 u2 : V) (R1 R2 : List Int), u = .ref p ∧ H9 p = some (.tup [u1, u2]) ∧ Ro H9 u1 R1 ∧ Ro H9 u2 R2 ∧ Rb R1 ∧ Rb R2 ∧ nm R1 < 2 ^ 242 ∧ nm R2 < 2 ^ 242 ∧ min R1.length R2.length ≤ 5 := fun i u hi => by
      match i, hi with
      | 0, h => cases h; exact ⟨p1, y, x, A, S, rfl, e1, ry, rx, rbA, rbS, nA, nS2, by omega⟩
      | 1, h => cases h; exact ⟨p2, x, z, S, B, rfl, e2, rx, rz, rbS, rbB, nS2, nB2, by omega⟩
      | _ + 2, h => simp at h
    refine for_tup (xs := [V.ref p1, V.ref p2]) (fun i σ H' => ∃ x6 x7, σ = [some (.ref a), some x, some y, some z, some v, some (.ref T), x6, x7, none, none] ∧ Same H9 H') ⟨x6, x7, rfl, Same.refl _⟩ ?_ ?_ ?_
    · rintro i σ H10 hi ⟨x6, x7, rfl, s10⟩
      exact SqT.of (s10 _ _ epp)
    · rintro i u σ H10 hu' ⟨x6, x7, rfl, s10⟩
      obtain ⟨p, u1, u2, R1, R2, rfl, ep, r1, r2, b1, b2, m1, m2, ml⟩ := prs i u hu'
      refine ⟨p, _, rfl, SqT.of (s10 _ _ ep), rfl, _, _, rfl, _, _, rfl, rfl, ?_⟩
      have r1 := r1.kt (Kt.of s10)
      have r2 := r2.kt (Kt.of s10)
      obtain ⟨q2, rfl, eq2⟩ := r2
      refine ⟨.ref q2, rfl, sz (by simp), fun t nt => ?_⟩
      have s11 := same_new (o := .tup []) nt
      refine ⟨q2, t, R2.map V.int, [], rfl, rfl, SqT.of (s11 _ _ eq2), SqT.of upd_same, rfl, _, rfl, ?_⟩
      have r1 := r1.kt (Kt.of s11)
      have r2 : Ro (upd H10 t (.tup [])) (.ref q2) R2 := ⟨q2, rfl, s11 _ _ eq2⟩
      have s11 := s10.trans s11
      generalize upd H10 t (.tup []) = H11 at s11 r1 r2 ⊢
      have emp : (R2.map V.int).isEmpty = R2.isEmpty := by cases R2 <;> rfl
      rw [emp]
      have w11 := w9.to s11
      by_cases n2 : R2 = []
      · subst n2
        exact iteF (iteF ⟨_, _, rfl, s11⟩)
      rw [show (!R2.isEmpty) = true by cases R2 with | nil => exact absurd rfl n2 | cons a l => rfl]
      refine iteT ⟨_, rfl, .ref q2, rfl, a, u1, .ref q2, R1, R2, rfl, w11, r1, r2, b1.ok, b2.ok, by have := b1.len; omega, by have := b2.len; omega, by omega, cm_of m1 m2 (by omega), fun z1 t1 H12 s12 rz1 ok1 g1 => ?_⟩
      have nt1 := prod_nm ok1 g1
      have lt1 := prod_len ok1 g1
      have et1 := prod_ev ok1 g1
      have ovp := ov_mul b1.ok b2.ok n2 et1 ok1
      have fewP : Few (primeI R1) := ⟨Nat.lt_of_le_of_lt (nm_primeN b1.ok) (Nat.lt_of_lt_of_le m1 (Nat.pow_le_pow_right (by decide) (by decide))), by rw [len_primeI]; have := b1.len; omega⟩
      have sm1 : nm t1 < 2 ^ 484 := by
        have a1 : nm R1 * nm R2 < 2 ^ 242 * 2 ^ 242 := Nat.lt_of_le_of_lt (Nat.mul_le_mul_right _ (Nat.le_of_lt m1)) (Nat.mul_lt_mul_of_pos_left m2 (Nat.pow_pos (by decide)))
        rw [← Nat.pow_add] at a1
        exact Nat.lt_of_le_of_lt nt1 a1
      refine ⟨.ref q2, rfl, a, z1, .ref q2, t1, R2, 484, rfl, w11.to s12, rz1, r2.kt (Kt.of s12), ok1, b2.ok, n2, sm1, Nat.lt_of_lt_of_le m2 (Nat.pow_le_pow_right (by decide) (by decide)), by omega, by have := b1.len; have := b2.len; omega, by have := b2.len; omega, fun z2 t2 H13 s13 rz2 ov2 => ?_, fun no => absurd ⟨_, ovp⟩ no⟩
      have e := ov2.one b2.ok n2 ovp
      subst e
      have s13' := s12.trans s13
      refine show_row (w11.to s13') rz2 fewP ⟨_, rfl, u1, R1, rfl, r1.kt (Kt.of s13'), b1.ok, by have := b1.len; omega, fun z3 H14 s14 rz3 => ?_⟩
      refine show_row (w11.to (s13'.trans s14)) rz3 fewP ⟨rfl, _, rfl, ?_⟩
      rw [decide_eq_true rfl]
      exact iteF ⟨_, _, rfl, s11.trans (s13'.trans s14)⟩
    · rintro σ H10 ⟨x6, x7, rfl, s10⟩
      exact ⟨x6, x7, rfl, s9.trans s10⟩
  rintro σ9 H9 ⟨x6, x7, rfl, s9⟩
  have w9 := w8.to s9
  have rx := rx.kt (Kt.of s9)
  have ry := ry.kt (Kt.of s9)
  have rz := rz.kt (Kt.of s9)
  have rv := rv.kt (Kt.of s9)
  -- plain rows
  let f0 : List Int → Bool := fun r => !r.isEmpty
  refine ⟨fun σ H' => ∃ (D0 : Addr) (ys : List V), σ = [some (.ref a), some x, some y, some z, some v, some (.ref T), x6, x7, some (.ref D0), none] ∧ Same H9 H' ∧ H' D0 = some (.lst ys) ∧ RoA H' ys ([A, B, S, G].filter f0), ?_, ?_⟩
  · refine lc_filtR (K := K) f0 (rs := [A, B, S, G]) (fun R hR => ?_) (by simp) (fun x => rfl) (fun u r H10 hr' s10 ru R hR => ?_) (fun u H10 R hR => ⟨u, rfl, hR⟩) fun D0 ys H10 s10 e10 r10 => ⟨D0, ys, rfl, s10, e10, r10⟩
    · refine ⟨y, rfl, z, rfl, x, rfl, v, rfl, sz (by simp), fun p np => ⟨p, rfl, ⟨_, SqT.of upd_same⟩, hR p _ _ (same_new np) upd_same ?_⟩⟩
      have s10 := same_new (o := .tup [y, z, x, v]) np
      exact ((((RoA.nil _).snoc (ry.kt (Kt.of s10))).snoc (rz.kt (Kt.of s10))).snoc (rx.kt (Kt.of s10))).snoc (rv.kt (Kt.of s10))
    · obtain ⟨q2, rfl, eq2⟩ := ru
      refine ⟨.ref q2, rfl, sz (by simp), fun t nt => ⟨q2, t, r.map V.int, [], rfl, rfl, SqT.of ((same_new nt) _ _ eq2), SqT.of upd_same, rfl, _, rfl, ?_⟩⟩
      rw [show (r.map V.int).isEmpty = r.isEmpty by cases r <;> rfl]
      exact hR _ (same_new nt)
  rintro σ10 H10 ⟨D0, ys, rfl, s10, eD, rD⟩
  have w10 := w9.to s10
  generalize hrs : [A, B, S, G].filter f0 = rs at rD
  have rsb : ∀ r ∈ rs, Rb r ∧ r ≠ [] := fun r hr' => by
    rw [← hrs] at hr'
    obtain ⟨m1, m2⟩ := List.mem_filter.mp hr'
    refine ⟨?_, fun z => by rw [z] at m2; cases m2⟩
    simp at m1
    rcases m1 with rfl | rfl | rfl | rfl
    · exact rbA
    · exact rbB
    · exact rbS
    · exact rbG
  have rsl : rs.length ≤ 4 := by rw [← hrs]; exact Nat.le_trans (List.length_filter_le _ _) (by simp)
  have fin : ∀ t ∈ rs.map plI, Few t := fun t ht => by
    obtain ⟨r, hr', rfl⟩ := List.mem_map.mp ht
    obtain ⟨b, nr⟩ := rsb r hr'
    by_cases e : ∃ t, Pl r t
    · obtain ⟨t, pt⟩ := e
      rw [pl_eq pt]
      exact (pl_small b pt).2
    · unfold plI
      rw [dif_neg e]
      exact ⟨Nat.pow_pos (by decide), by simp⟩
  refine lc_relL (S := Ro) (R := Ro) (g := plI) (rs := rs) (p := D0) (xs := ys) stable_ro stable_ro rfl eD rD (by omega) (fun x => wipeJ _ _ _) (fun u r H11 hd s11 ru Z hZ => ?_) fun L zs H11 s11 nL eL rL => ?_
  · obtain ⟨b, nr⟩ := rsb r hd
    refine ⟨u, rfl, a, u, r, 440, rfl, w10.to s11, ru, b.ok, nr, b.sm, by omega, by have := b.len; omega, fun z1 t1 H12 s12 rz1 pt => hZ _ _ s12 ?_⟩
    rw [pl_eq pt]
    exact rz1
  · refine show_rows (w10.to s11) eL rL fin (by rw [List.length_map]; omega) ?_
    refine lc_relL (S := Ro) (R := Ro) (g := plI) (rs := rs) (p := D0) (xs := ys) stable_ro stable_ro rfl (s11 _ _ eD) (rD.kt (Kt.of s11)) (by omega) (fun x => wipeJ _ _ _) (fun u r H12 hd s12 ru Z hZ => ?_) fun L2 zs2 H12 s12 nL2 eL2 rL2 => ?_
    · obtain ⟨b, nr⟩ := rsb r hd
      refine ⟨u, rfl, u, r, 440, rfl, ru, b.ok, nr, b.sm, by omega, by have := b.len; omega, room_plain b.len, fun z1 t1 H13 s13 rz1 pt => hZ _ _ s13 ?_⟩
      rw [pl_eq pt]
      exact rz1
    · refine show_rows (w10.to (s11.trans s12)) eL2 rL2 fin (by rw [List.length_map]; omega) ⟨rfl, ?_⟩
      rw [decide_eq_true rfl]
      exact q _ (k5.trans (Kp.of (s7.trans (s8.trans (s9.trans (s10.trans (s11.trans s12)))))))
end
end K03

set_option Elab.async false
set_option linter.all false
set_option maxRecDepth 100000
set_option maxHeartbeats 4000000
local macro_rules | `(tactic| walk_at "rd") => `(tactic| dsimp only [Evl.tCut, L2.tSeq, L2.tNext, L2.tRet, L2.tRetN, L2.tAsg, L2.gName, L2.tIfS, L2.tDrop, L2.tCons, L2.tNil, L2.tC, L2.tVar, L2.tCB, L2.tAndV, L2.tOrV, L2.tNotV, L2.tB, L2.tTest, L2.tOp, L2.tUn, L2.tNot, L2.tAnd, L2.tOr, L2.tIf, L2.tCall, L2.tTup, L2.tLst, L2.tNotT, L2.tYes, L2.gTup, L2.gCons, L2.gNil, L2.gSub, L2.tBM0, L2.tBM, L2.tWhile, L2.tFor, L2.iRng1, L2.iRng2, L2.tAugS, Tw.iEnumT, L2.tCKw, L2.tAug, L2.ipI, RT.iRevA, L2.tPar, L2.tPar3, L2.tSl, L2.tNoPart, L2.tPart, Tw.tRevT])
namespace K03
open PySem PySem.Spec PyProof.Rows L2 Tw
section
variable {P : Program} {w : World} {K : PySem.W.Frag} {mg : Str → Option Value} {base : Heap}
theorem scLaw : FnScope ["_law_script", "_law_at"] ["_law_script"] (defScope sLaw) := ⟨rfl, rfl, rfl, by decide +kernel, rfl, by decide +kernel, by decide +kernel⟩
theorem ok_law (D : Def K mg "law" sLaw ["_law_script"]) (nb : Nb mg) (c1 : Cal P w K mg base "_law_well" 1 ["_law_script", "_law_at"] (spWell K)) (c2 : CalG P w K mg base "_law_right" 40 ["_law_well_here"] spRight) :
    CalG P w K mg base "law" 41 ["_law_script"] (spLaw K) := by
  refine D.okG scLaw (fun vs H Q E h => ?_) (fun f cdv A out s H vs Q E hq hr h => ?_)
  · obtain ⟨p, ns, rfl, _⟩ := h; rfl
  obtain ⟨p, ns, rfl, hp, hl, q⟩ := h
  refine ⟨_, pss_one (ps_ret (pe_callB (id := "all") (r := rAll K) (cr_all rfl) (by rfl) nb.all (by decide +kernel) (pa_cons
    (pe_lc (own := [("_law_at", 1)]) (g := gName 1) (tt := tYes) rfl scLaw.nd (pi_range1 (by rfl) nb.rng (pa_cons (pe_callB (id := "max") (call_max2 rfl) (by rfl) nb.max (by decide +kernel) (pa_cons pe_int (pa_cons
        (pe_callB (id := "min") (call_min2 rfl) (by rfl) nb.min (by decide +kernel) (pa_cons (pe_callB (id := "len") call_len_seq (by rfl) nb.len PySem.boot_len (pa_cons (pv 0) pa_nil)) (pa_cons pe_int pa_nil))) pa_nil))) pa_nil))
      (blkOk_by (N := ["_law_script", "_law_at"]) (sc := defScope sLaw) (by decide +kernel)) (fun _ _ _ _ _ => pg_name (i := 1) scLaw.nd rfl (Or.inl rfl)) (fun _ _ _ _ _ => pts_nil)
      (fun _ _ _ _ _ => pe_calG c2 hq hr (by omega) (by rfl) (pa_cons (pe_cal c1 hr (by omega) (by rfl) (pa_cons (pv 0) (pa_cons (pv 1) pa_nil))) pa_nil))) pa_nil))), ?_⟩
  walk_at "rd"
  generalize hm : (if (4 : Int) < ((ns.map V.int).length : Int) then (4 : Int) else ((ns.map V.int).length : Int)) = m
  generalize hk : (if m > 2 then m else 2) = k
  have k0 : 2 ≤ k := by rw [← hk]; split <;> omega
  have k1 : k ≤ 4 := by
    have : m ≤ 4 := by rw [← hm]; split <;> omega
    rw [← hk]; split <;> omega
  refine lc_rng (n := k.toNat) (fun _ => V.bl true) (fun R hR => ?_) (by omega) (wipe1 _ 1) (fun i H1 hi s1 R kR => ?_) fun L H1 s1 nL hL => ?_
  · refine ⟨.ref p, rfl, p, _, rfl, .inl hp, _, _, rfl, _, _, rfl, k, ?_, by omega, by omega, hR⟩
    rw [hm, hk]
  · refine ⟨.ref p, rfl, .int (0 + (i : Int)), rfl, p, ns, _, rfl, s1.seq hp, hl, by omega, fun a H2 s2 na w2 => ⟨a, rfl, w2, fun H3 k3 => kR H3 (same_kp s2 na k3)⟩⟩
  · refine ⟨L, (List.range k.toNat).map (fun _ => true), rfl, SqL.of (by rw [List.map_map]; exact hL), ?_⟩
    have e : ((List.range k.toNat).map (fun _ => true)).all id = true := by
      rw [List.all_eq_true]
      intro b hb
      obtain ⟨_, _, rfl⟩ := List.mem_map.mp hb
      rfl
    rw [e]
    exact q H1
end
end K03

set_option Elab.async false
set_option linter.all false
set_option maxRecDepth 100000
set_option maxHeartbeats 4000000
/-! the end of a law whose def wants quiet -/
namespace Tw
open PySem PySem.Spec PyProof.Rows L2

/-- a promise wide enough that says nothing of exceptions, over a heap in which the script alone may be known -/
theorem law_quietP {P : Program} {w : World} {K : PySem.W.Frag} {mg mb : Str → Option Value} {k : Nat} {fa a : Addr} {fd : FuncData}
    {x : Str} {sp : Sp} {s₁ : Shared} {vs : List Value} {ns : List Int} (KX : K.In s₁.heap) (hns : s₁.heap.Ns mainGlobals mg)
    (hb : s₁.heap.Ns builtinsNs mb) (hbb : ∀ x : Str, x ≠ "__name__" → mb x = bootBuiltins x) (hlim : s₁.heap.NoLimit) (hN : s₁.heap.NoSeer)
    (hg : s₁.gens = #[]) (ha : s₁.heap.get? a = some { cls := .type "list", data := .seq vs.toArray }) (hi : IntsAre vs ns)
    (hl : ns.length ≤ sizeLine) (hr : Room k callerA)
    (F : ∀ base : Heap, K.In base → base.Ns mainGlobals mg → base.NoSeer → FnG P w K mg base k fa fd [x] sp)
    (hbind : ∀ (s : Shared) (u : Value), BindsTo s fd ⟨[u], []⟩ [(x, u)])
    (hsp : ∀ H : Hp, Only H → SqL K H a (ns.map V.int) → sp [.ref a] H (fun v _ => v = .bl true) E0) :
    codeAny (model P w) callerA (.call (.ref fa) ⟨[.ref a], []⟩)
      (fun r s' => r = .ok (.ret (.bool true)) ∧ OldK s₁.heap s'.heap ∧ s'.os = s₁.os ∧ AllBare s'.gens) s₁ := by
  have hv := vals_ints hi
  have hn := hi.length
  have main : ∀ H : Hp, Only H → SqL K H a (ns.map V.int) → HOk P w H s₁.heap → (∀ b u, H b = some u → b = a ∧ K.lookup a = none) →
      codeAny (model P w) callerA (.call (.ref fa) ⟨[.ref a], []⟩)
        (fun r s' => r = .ok (.ret (.bool true)) ∧ OldK s₁.heap s'.heap ∧ s'.os = s₁.os ∧ AllBare s'.gens) s₁ := by
    intro H hO hS hok hA
    have dictFree : ∀ {b : Addr} {o : Obj} {es : Array DictEntry} {ep : Nat},
        s₁.heap.get? b = some o → o.data = .dict es ep → H b = none := by
      intro b o es ep e d
      cases q : H b with
      | none => rfl
      | some u =>
        obtain ⟨e1, _⟩ := hA b u q
        rw [e1, ha] at e
        injection e with e
        rw [← e] at d
        exact absurd d (by intro z; cases z)
    have nsB : ∀ {b : Addr} {m : Str → Option Value}, s₁.heap.Ns b m → (hidT s₁.heap H).Ns b m := by
      rintro b m ⟨o, es, ep, e, d, r⟩
      exact ⟨o, es, ep, hidT_get e (dictFree e d), d, r⟩
    have kB : K.In (hidT s₁.heap H) := by
      intro b o e
      refine hidT_get (KX b o e) ?_
      cases q : H b with
      | none => rfl
      | some u =>
        obtain ⟨e1, e2⟩ := hA b u q
        rw [e1, e2] at e
        cases e
    have hM : Mod K mg (hidT s₁.heap H) := by
      obtain ⟨mc, l1, l2⟩ := hlim
      exact ⟨kB, nsB hns, ⟨mb, nsB hb, hbb⟩, ⟨mc, nsB l1, l2⟩⟩
    have sB : (hidT s₁.heap H).NoSeer := by
      obtain ⟨⟨mc, c1, c2⟩, ⟨mm, m1, m2⟩, ⟨mb', i1, i2⟩, ⟨mg', bm, ob, g1, g2, g3, g4, g5⟩⟩ := hN
      refine ⟨⟨mc, nsB c1, c2⟩, ⟨mm, nsB m1, m2⟩, ⟨mb', nsB i1, i2⟩, ⟨mg', bm, ob, nsB g1, g2, hidT_get g3 ?_, g4, g5⟩⟩
      cases q : H bm with
      | none => rfl
      | some u =>
        obtain ⟨e1, _⟩ := hA bm u q
        rw [e1, ha] at g3
        injection g3 with g3
        rw [← g3] at g4
        exact absurd g4 (by simp)
    have noB : ∀ b : Addr, b ∈ frs ([] : List Env) → False := fun b z => by simp [frs] at z
    have e0 : Env0 P w K mg (hidT s₁.heap H) callerA [] s₁ H :=
      ⟨rfl, hM, fun b o e => of_hidT e, Nat.le_of_eq (hidT_size _ _), trivial, fun b z => (noB b z).elim, hok, .of_eq hg⟩
    have go := (F _ kB (nsB hns) sB).goes callerA [] s₁ H ⟨[.ref a], []⟩ [.ref a] [.ref a] (fun v _ => v = .bl true) E0 rfl hr e0
      (hbind s₁ (.ref a)) (.cons rfl .nil) (hsp H hO hS)
    refine codeAny_mono go fun r s' h => ?_
    cases r with
    | error e => exact False.elim h
    | ok fl =>
      cases fl with
      | next => exact False.elim h
      | brk => exact False.elim h
      | cont => exact False.elim h
      | ret u =>
        obtain ⟨v, H', os, bare, un, hok', rv, q⟩ := h
        subst q
        cases (show u = Value.bool true from rv)
        refine ⟨rfl, OldK.of_keep fun b o e => ?_, os, bare⟩
        cases q : H b with
        | none => exact un.keep b o e q (fun z => noB b z) (by simp)
        | some u =>
          cases hO b with
          | inl z => rw [q] at z; cases z
          | inr z =>
            obtain ⟨ob, xs, z⟩ := z
            have f1 := (hok b _ z).1
            have f2 := (hok' b _ (un.frzs b ob _ z)).1
            rw [e] at f1
            rw [f2, ← f1]
  cases hk : K.lookup a with
  | some o =>
    have e := KX a o hk
    rw [ha] at e
    injection e with e
    subst e
    refine main (fun _ => none) (fun _ => Or.inl rfl) (Or.inr ⟨_, vs.toArray, _, hk, rfl, rfl, rfl, ?_, by simpa using hv⟩) ?_ ?_
    · rw [List.size_toArray, hn]; exact hl
    · intro b u z; exact absurd z (by intro y; cases y)
    · intro b u z; exact absurd z (by intro y; cases y)
  | none =>
    let Ha : Hp := fun b => if b = a then some (.frz { cls := .type "list", data := .seq vs.toArray } (.lst (ns.map V.int))) else none
    have ya : ∀ b, b = a → Ha b = some (.frz { cls := .type "list", data := .seq vs.toArray } (.lst (ns.map V.int))) := fun b h => if_pos h
    have na : ∀ b, b ≠ a → Ha b = none := fun b h => if_neg h
    refine main Ha (fun b => ?_) (Or.inl (Or.inr ⟨_, ya a rfl⟩)) (fun b u z => ?_) (fun b u z => ?_)
    · by_cases h : b = a
      · exact Or.inr ⟨_, _, ya b h⟩
      · exact Or.inl (na b h)
    · by_cases h : b = a
      · rw [ya b h] at z
        injection z with z
        subst z h
        exact ⟨ha, by rw [List.length_map]; exact hl, vs, _, hv, ha⟩
      · rw [na b h] at z; cases z
    · by_cases h : b = a
      · exact ⟨h, hk⟩
      · rw [na b h] at z; cases z

theorem walk_quietP {l : PySem.W.OpenLaw} {n k : Nat} {q : Program} {loose : List Str} {XP : (Str → Option Value) → Heap → Prop}
    {YP : World → Heap → Prop} {d : DefRec} {K : Params → PySem.W.Frag} {sp : PySem.W.Frag → Sp} {x : Str} (hn : l.most = some n)
    (hn2 : n ≤ sizeLine) (hdf : d.params.defaults = []) (hr : Room k callerA)
    (hY : ∀ (w : World) (h : Heap), YP w h → (K w.params).In h) (hi : importsNone q = true)
    (F : ∀ (w : World) (mg : Str → Option Value) (fa : Addr) (h : Heap), (K w.params).In h → h.Ns mainGlobals mg →
      mg d.name = some (.ref fa) → ∃ fd : FuncData, (∀ (s : Shared) (u : Value), BindsTo s fd ⟨[u], []⟩ [(x, u)]) ∧
        ∀ base : Heap, (K w.params).In base → base.Ns mainGlobals mg → base.NoSeer → FnG l.prog w (K w.params) mg base k fa fd [x] (sp (K w.params)))
    (hsp : ∀ (K : PySem.W.Frag) (H : Hp) (a : Addr) (ns : List Int), ns.length ≤ n → Only H → SqL K H a (ns.map V.int) →
      sp K [.ref a] H (fun v _ => v = .bl true) E0) :
    PySem.W.WalkO q loose XP YP l.row.toRowW d [] (fun f vs => PySem.call f vs) := by
  refine Att.attach_call hn hdf ?_
  intro w s₀ s₁ mg mb fa o pm cd doc a vs ns G Y ho hd hcd hmg hobj hints hlen hg
  have kx := hY w _ Y
  obtain ⟨fd, hb, hF⟩ := F w mg fa _ kx G.T.g hmg
  exact law_quietP kx G.T.g G.T.b G.T.builtins G.T.nolimit (G.T.seer hi) hg hobj hints (Nat.le_trans hlen hn2) hr hF hb
    fun H hO hS => hsp _ H a ns hlen hO hS
theorem end_lawB {P : Program} {w : World} {K : PySem.W.Frag} {mg : Str → Option Value} {x y : Str} {st : Stmt} {k : Nat} {sp : Sp} {fa : Addr} {T : Heap → Prop} (D : Def K mg x st [y]) (hfa : mg x = some (.ref fa)) (F : ∀ base : Heap, T base → CalG P w K mg base x k [y] sp)
    (hb : ∀ (kV doc pm : Value) (an : Option Addr) (cdv ct u : Value), bindArgs (PySem.W.fnOf x x (defArgs st) (defBody st) (defScope st) .none kV doc pm an cdv ct) ⟨[u], []⟩ = pure [(y, u)]) :
    ∃ fd : FuncData, (∀ (s : Shared) (u : Value), BindsTo s fd ⟨[u], []⟩ [(y, u)]) ∧ ∀ base : Heap, K.In base → base.Ns mainGlobals mg → T base → FnG P w K mg base k fa fd [y] sp := by
  obtain ⟨f, fd, F', m, _⟩ := D
  have e1 : f = fa := by rw [hfa] at m; injection m with z; injection z with z; exact z.symm
  subst e1
  obtain ⟨oc, od, kV, doc, pm, an, cdv, ct, osl, e2, lk, _⟩ := F'.ex
  refine ⟨fd, fun s u => by rw [e2]; exact .of_eq (hb kV doc pm an cdv ct u), fun base _ _ tb => ?_⟩
  obtain ⟨f2, fd2, G, m2, _, _, oc2, od2, osl2, lk2⟩ := F base tb
  have e3 : f2 = f := by rw [hfa] at m2; injection m2 with z; injection z with z; exact z.symm
  subst e3
  rw [lk] at lk2
  injection lk2 with lk2
  injection lk2 with _ _ e4 _
  injection e4 with e4
  subst e4
  rw [e2] at *
  exact G
end Tw

set_option Elab.async false
set_option linter.all false
set_option maxRecDepth 100000
set_option maxHeartbeats 8000000
namespace K03
open PySem PySem.Spec PyProof.Rows L2 Tw
theorem with_name {R : Prop} {K : PySem.W.Frag} {mg : Str → Option Value} {x : Str} {v : Value} {h : Heap} (X : K.In h) (G : h.Ns mainGlobals mg) (a : PySem.W.nsIn K mainGlobals x = some (some v)) (go : mg x = some v → R) : R := go (PySem.W.mg_of X G a)
theorem with_int {R : Prop} {K : PySem.W.Frag} {mg : Str → Option Value} {x : Str} {i : Int} {t : Tok} {h : Heap} (X : K.In h) (G : h.Ns mainGlobals mg) (a : PySem.W.nsIn K mainGlobals x = some (some (.int i t))) (go : (∃ t, mg x = some (.int i t)) → R) : R := go ⟨t, PySem.W.mg_of X G a⟩
/-- all defs and names, put together -/
theorem whole {P : Program} {w : World} {K : PySem.W.Frag} {mg : Str → Option Value} (nb : Nb mg) (ht : P.given.tree = none) (ns : ∃ t, mg "SHORT" = some (.int 6 t))
    (d0 : Def K mg "is_whole" sWhole ["value"])
    (d1 : Def K mg "shared_by" sShared ["numbers"])
    (d2 : Def K mg "row_divided" sDivided ["row", "whole"])
    (d3 : Def K mg "width_of" sWidth ["row"])
    (d4 : Def K mg "packed" sPacked ["row", "bits"])
    (d5 : Def K mg "unpacked" sUnpacked ["value", "bits"])
    (d6 : Def K mg "row_times" sPRTimes ["row", "other"])
    (d7 : Def K mg "row_derivative" sPDeriv ["row"])
    (d8 : Def K mg "row_prime" sPPrime ["row"])
    (d9 : Def K mg "row_quotient" sPQuot ["row", "by"])
    (d10 : Def K mg "row_common" sPCommon ["row", "other"])
    (d11 : Def K mg "row_plain" sPPlain ["row"])
    (d12 : Def K mg "is_row" sRow ["value"])
    (d13 : Def K mg "check_row" sChkR ["row"])
    (d14 : Def K mg "check_no_nought" sChkNo ["row"])
    (d15 : Def K mg "check_both" sChkBoth ["row", "other"])
    (d16 : Def K mg "times" sApTimes ["row", "other"])
    (d17 : Def K mg "common" sApCommon ["row", "other"])
    (d18 : Def K mg "over" sApOver ["row", "other"])
    (d19 : Def K mg "plain" sApPlain ["row"])
    (d20 : Def K mg "_law_well" sWell ["_law_script", "_law_at"])
    (d21 : Def K mg "_law_draw" sDraw ["_law_well_here", "_law_few"])
    (d22 : Def K mg "_law_pick" sPick ["_law_well_here", "_law_some"])
    (d23 : Def K mg "_law_common" sCommon ["_law_one", "_law_two"])
    (d24 : Def K mg "_law_lean" sLean ["_law_top", "_law_base"])
    (d25 : Def K mg "_law_root" sRoot ["_law_whole", "_law_few"])
    (d26 : Def K mg "_law_small" sSmall ["_law_well_here"])
    (d27 : Def K mg "_law_trim" sTrim ["_law_some"])
    (d28 : Def K mg "_law_line" sLine ["_law_well_here", "_law_few"])
    (d29 : Def K mg "_law_sum" sSum ["_law_one", "_law_two"])
    (d30 : Def K mg "_law_scaled" sLScaled ["_law_line_here", "_law_by"])
    (d31 : Def K mg "_law_product" sProd ["_law_one", "_law_two"])
    (d32 : Def K mg "_law_power" sPow ["_law_line_here", "_law_few"])
    (d33 : Def K mg "_law_slope" sSlope ["_law_line_here"])
    (d34 : Def K mg "_law_thin" sThin ["_law_line_here"])
    (d35 : Def K mg "_law_prime" sPrime ["_law_line_here"])
    (d36 : Def K mg "_law_rest" sRest ["_law_one", "_law_two"])
    (d37 : Def K mg "_law_shared" sLShared ["_law_one", "_law_two"])
    (d38 : Def K mg "_law_over" sOver ["_law_one", "_law_two"])
    (d39 : Def K mg "_law_plain" sPlain ["_law_line_here"])
    (d40 : Def K mg "_law_least" sLeast ["_law_own_here"])
    (d41 : Def K mg "_law_own" sOwn ["_law_well_here"])
    (d42 : Def K mg "_law_made" sMade ["_law_well_here"])
    (d43 : Def K mg "_law_right" sRight ["_law_well_here"])
    (d44 : Def K mg "law" sLaw ["_law_script"])
    (base : Heap) (hN : base.NoSeer) : CalG P w K mg base "law" 41 ["_law_script"] (spLaw K) := by
  have c_whole := ok_whole (P := P) (w := w) (base := base) d0 nb
  have c_row := ok_row d12 nb c_whole
  have c_shb := ok_shared (P := P) (w := w) (base := base) d1 nb
  have c_div := ok_divided (P := P) (w := w) (base := base) d2 nb hN ht
  have c_wid := ok_width (P := P) (w := w) (base := base) d3 nb
  have c_pack := ok_packed (P := P) (w := w) (base := base) d4 nb
  have c_unp := ok_unpacked (P := P) (w := w) (base := base) d5 nb
  have c_times := ok_prtimes (P := P) (w := w) (base := base) d6 nb nb.enm ns
  have c_der := ok_pderiv (P := P) (w := w) (base := base) d7 nb nb.enm
  have c_prm := ok_pprime d8 c_shb c_div
  have c_quo := ok_quot (P := P) (w := w) (base := base) d9 nb hN ht
  have c_com := ok_pcommon d10 nb c_prm c_wid c_pack c_unp c_quo
  have c_pla := ok_pplain d11 nb c_prm c_der c_com c_quo
  have c_chkr := ok_chkr d13 c_row
  have c_chkno := ok_chkno d14 c_row
  have c_chkb := ok_chkboth d15 c_chkr
  have a_ti := ok_aptimes d16 c_chkb c_times
  have a_co := ok_apcommon d17 c_chkb c_com
  have a_ov := ok_apover d18 c_chkr c_chkno c_prm c_quo
  have a_pl := ok_applain d19 c_chkno c_pla
  have c_well := ok_well (P := P) (w := w) (base := base) d20 nb
  have c_draw := ok_draw (P := P) (w := w) (base := base) d21 nb
  have c_pick := ok_pick d22 nb c_draw
  have c_gcd := ok_common (P := P) (w := w) (base := base) d23 nb
  have c_lean := ok_lean d24 c_gcd
  have c_root := ok_root (P := P) (w := w) (base := base) d25 nb
  have c_small := ok_small d26 c_draw
  have c_trim := ok_trim (P := P) (w := w) (base := base) d27 nb
  have c_line := ok_line d28 nb c_draw c_small c_trim
  have c_sum := ok_sum d29 nb c_trim
  have c_sc := ok_lscaled d30 c_trim
  have c_prod := ok_prod d31 nb nb.enm c_trim
  have c_pow := ok_pow d32 nb c_prod
  have c_slo := ok_slope (P := P) (w := w) (base := base) d33 nb nb.enm
  have c_thin := ok_thin d34 nb hN ht c_gcd
  have c_pri := ok_prime d35 nb c_thin
  have c_rest := ok_rest d36 nb c_trim
  have c_sh := ok_lshared d37 c_thin c_rest c_pri
  have c_ov := ok_over d38 nb c_trim c_pri
  have c_pl := ok_plain d39 c_ov c_sh c_slo
  have c_least := ok_least d40 nb c_pri c_sum c_pow c_trim
  have c_own := ok_own d41 nb c_draw c_small c_pick c_lean c_root
  have c_made := ok_made d42 nb c_draw c_small c_least c_own c_sum c_pow c_line c_trim
  have c_right := ok_right d43 nb c_made c_sc c_prod c_draw c_sh a_co a_ov c_ov a_ti c_pri a_pl c_pl
  exact ok_law d44 nb c_well c_right
end K03

set_option Elab.async false
set_option linter.all false
set_option maxRecDepth 100000
open PySem PySem.W PyProof.Rows
set_option maxHeartbeats 0 in
theorem PySem.Challenge.cw_twoletters_k03_common_rows_and_plain_row_holds : PySem.Challenge.rw_twoletters_k03_common_rows_and_plain_row.Holds := by
  w_on; o_law; k_head; (case hw => w_witness2)
  k_fill
  refine Tw.walk_quietP (l := PySem.Challenge.rw_twoletters_k03_common_rows_and_plain_row) (n := 63) (k := 41) (x := "_law_script") (sp := K03.spLaw) rfl (by decide) rfl ⟨rfl, by decide, by decide⟩ (fun w h Y => PySem.W.kIn_of Y) (by decide +kernel) ?F
    (fun K H a ns hl _ hS => ⟨a, ns, rfl, hS, hl, fun _ => rfl⟩)
  case F =>
    intro w mg fa h KX G hmg
    refine' Tw.with_def (x := "is_whole") (st := K03.sWhole) (ps := ["value"]) KX G ?a ?l ?c ?k (fun _ _ _ _ _ _ us hl => match us, hl with | [_], _ => rfl) (fun d0 => ?_)
    (case a => k_is); (case l => k_is); (case c => k_is); (case k => k_is)
    refine' Tw.with_def (x := "shared_by") (st := K03.sShared) (ps := ["numbers"]) KX G ?a ?l ?c ?k (fun _ _ _ _ _ _ us hl => match us, hl with | [_], _ => rfl) (fun d1 => ?_)
    (case a => k_is); (case l => k_is); (case c => k_is); (case k => k_is)
    refine' Tw.with_def (x := "row_divided") (st := K03.sDivided) (ps := ["row", "whole"]) KX G ?a ?l ?c ?k (fun _ _ _ _ _ _ us hl => match us, hl with | [_, _], _ => rfl) (fun d2 => ?_)
    (case a => k_is); (case l => k_is); (case c => k_is); (case k => k_is)
    refine' Tw.with_def (x := "width_of") (st := K03.sWidth) (ps := ["row"]) KX G ?a ?l ?c ?k (fun _ _ _ _ _ _ us hl => match us, hl with | [_], _ => rfl) (fun d3 => ?_)
    (case a => k_is); (case l => k_is); (case c => k_is); (case k => k_is)
    refine' Tw.with_def (x := "packed") (st := K03.sPacked) (ps := ["row", "bits"]) KX G ?a ?l ?c ?k (fun _ _ _ _ _ _ us hl => match us, hl with | [_, _], _ => rfl) (fun d4 => ?_)
    (case a => k_is); (case l => k_is); (case c => k_is); (case k => k_is)
    refine' Tw.with_def (x := "unpacked") (st := K03.sUnpacked) (ps := ["value", "bits"]) KX G ?a ?l ?c ?k (fun _ _ _ _ _ _ us hl => match us, hl with | [_, _], _ => rfl) (fun d5 => ?_)
    (case a => k_is); (case l => k_is); (case c => k_is); (case k => k_is)
    refine' Tw.with_def (x := "row_times") (st := K03.sPRTimes) (ps := ["row", "other"]) KX G ?a ?l ?c ?k (fun _ _ _ _ _ _ us hl => match us, hl with | [_, _], _ => rfl) (fun d6 => ?_)
    (case a => k_is); (case l => k_is); (case c => k_is); (case k => k_is)
    refine' Tw.with_def (x := "row_derivative") (st := K03.sPDeriv) (ps := ["row"]) KX G ?a ?l ?c ?k (fun _ _ _ _ _ _ us hl => match us, hl with | [_], _ => rfl) (fun d7 => ?_)
    (case a => k_is); (case l => k_is); (case c => k_is); (case k => k_is)
    refine' Tw.with_def (x := "row_prime") (st := K03.sPPrime) (ps := ["row"]) KX G ?a ?l ?c ?k (fun _ _ _ _ _ _ us hl => match us, hl with | [_], _ => rfl) (fun d8 => ?_)
    (case a => k_is); (case l => k_is); (case c => k_is); (case k => k_is)
    refine' Tw.with_def (x := "row_quotient") (st := K03.sPQuot) (ps := ["row", "by"]) KX G ?a ?l ?c ?k (fun _ _ _ _ _ _ us hl => match us, hl with | [_, _], _ => rfl) (fun d9 => ?_)
    (case a => k_is); (case l => k_is); (case c => k_is); (case k => k_is)
    refine' Tw.with_def (x := "row_common") (st := K03.sPCommon) (ps := ["row", "other"]) KX G ?a ?l ?c ?k (fun _ _ _ _ _ _ us hl => match us, hl with | [_, _], _ => rfl) (fun d10 => ?_)
    (case a => k_is); (case l => k_is); (case c => k_is); (case k => k_is)
    refine' Tw.with_def (x := "row_plain") (st := K03.sPPlain) (ps := ["row"]) KX G ?a ?l ?c ?k (fun _ _ _ _ _ _ us hl => match us, hl with | [_], _ => rfl) (fun d11 => ?_)
    (case a => k_is); (case l => k_is); (case c => k_is); (case k => k_is)
    refine' Tw.with_def (x := "is_row") (st := K03.sRow) (ps := ["value"]) KX G ?a ?l ?c ?k (fun _ _ _ _ _ _ us hl => match us, hl with | [_], _ => rfl) (fun d12 => ?_)
    (case a => k_is); (case l => k_is); (case c => k_is); (case k => k_is)
    refine' Tw.with_def (x := "check_row") (st := K03.sChkR) (ps := ["row"]) KX G ?a ?l ?c ?k (fun _ _ _ _ _ _ us hl => match us, hl with | [_], _ => rfl) (fun d13 => ?_)
    (case a => k_is); (case l => k_is); (case c => k_is); (case k => k_is)
    refine' Tw.with_def (x := "check_no_nought") (st := K03.sChkNo) (ps := ["row"]) KX G ?a ?l ?c ?k (fun _ _ _ _ _ _ us hl => match us, hl with | [_], _ => rfl) (fun d14 => ?_)
    (case a => k_is); (case l => k_is); (case c => k_is); (case k => k_is)
    refine' Tw.with_def (x := "check_both") (st := K03.sChkBoth) (ps := ["row", "other"]) KX G ?a ?l ?c ?k (fun _ _ _ _ _ _ us hl => match us, hl with | [_, _], _ => rfl) (fun d15 => ?_)
    (case a => k_is); (case l => k_is); (case c => k_is); (case k => k_is)
    refine' Tw.with_def (x := "times") (st := K03.sApTimes) (ps := ["row", "other"]) KX G ?a ?l ?c ?k (fun _ _ _ _ _ _ us hl => match us, hl with | [_, _], _ => rfl) (fun d16 => ?_)
    (case a => k_is); (case l => k_is); (case c => k_is); (case k => k_is)
    refine' Tw.with_def (x := "common") (st := K03.sApCommon) (ps := ["row", "other"]) KX G ?a ?l ?c ?k (fun _ _ _ _ _ _ us hl => match us, hl with | [_, _], _ => rfl) (fun d17 => ?_)
    (case a => k_is); (case l => k_is); (case c => k_is); (case k => k_is)
    refine' Tw.with_def (x := "over") (st := K03.sApOver) (ps := ["row", "other"]) KX G ?a ?l ?c ?k (fun _ _ _ _ _ _ us hl => match us, hl with | [_, _], _ => rfl) (fun d18 => ?_)
    (case a => k_is); (case l => k_is); (case c => k_is); (case k => k_is)
    refine' Tw.with_def (x := "plain") (st := K03.sApPlain) (ps := ["row"]) KX G ?a ?l ?c ?k (fun _ _ _ _ _ _ us hl => match us, hl with | [_], _ => rfl) (fun d19 => ?_)
    (case a => k_is); (case l => k_is); (case c => k_is); (case k => k_is)
    refine' Tw.with_def (x := "_law_well") (st := K03.sWell) (ps := ["_law_script", "_law_at"]) KX G ?a ?l ?c ?k (fun _ _ _ _ _ _ us hl => match us, hl with | [_, _], _ => rfl) (fun d20 => ?_)
    (case a => k_is); (case l => k_is); (case c => k_is); (case k => k_is)
    refine' Tw.with_def (x := "_law_draw") (st := K03.sDraw) (ps := ["_law_well_here", "_law_few"]) KX G ?a ?l ?c ?k (fun _ _ _ _ _ _ us hl => match us, hl with | [_, _], _ => rfl) (fun d21 => ?_)
    (case a => k_is); (case l => k_is); (case c => k_is); (case k => k_is)
    refine' Tw.with_def (x := "_law_pick") (st := K03.sPick) (ps := ["_law_well_here", "_law_some"]) KX G ?a ?l ?c ?k (fun _ _ _ _ _ _ us hl => match us, hl with | [_, _], _ => rfl) (fun d22 => ?_)
    (case a => k_is); (case l => k_is); (case c => k_is); (case k => k_is)
    refine' Tw.with_def (x := "_law_common") (st := K03.sCommon) (ps := ["_law_one", "_law_two"]) KX G ?a ?l ?c ?k (fun _ _ _ _ _ _ us hl => match us, hl with | [_, _], _ => rfl) (fun d23 => ?_)
    (case a => k_is); (case l => k_is); (case c => k_is); (case k => k_is)
    refine' Tw.with_def (x := "_law_lean") (st := K03.sLean) (ps := ["_law_top", "_law_base"]) KX G ?a ?l ?c ?k (fun _ _ _ _ _ _ us hl => match us, hl with | [_, _], _ => rfl) (fun d24 => ?_)
    (case a => k_is); (case l => k_is); (case c => k_is); (case k => k_is)
    refine' Tw.with_def (x := "_law_root") (st := K03.sRoot) (ps := ["_law_whole", "_law_few"]) KX G ?a ?l ?c ?k (fun _ _ _ _ _ _ us hl => match us, hl with | [_, _], _ => rfl) (fun d25 => ?_)
    (case a => k_is); (case l => k_is); (case c => k_is); (case k => k_is)
    refine' Tw.with_def (x := "_law_small") (st := K03.sSmall) (ps := ["_law_well_here"]) KX G ?a ?l ?c ?k (fun _ _ _ _ _ _ us hl => match us, hl with | [_], _ => rfl) (fun d26 => ?_)
    (case a => k_is); (case l => k_is); (case c => k_is); (case k => k_is)
    refine' Tw.with_def (x := "_law_trim") (st := K03.sTrim) (ps := ["_law_some"]) KX G ?a ?l ?c ?k (fun _ _ _ _ _ _ us hl => match us, hl with | [_], _ => rfl) (fun d27 => ?_)
    (case a => k_is); (case l => k_is); (case c => k_is); (case k => k_is)
    refine' Tw.with_def (x := "_law_line") (st := K03.sLine) (ps := ["_law_well_here", "_law_few"]) KX G ?a ?l ?c ?k (fun _ _ _ _ _ _ us hl => match us, hl with | [_, _], _ => rfl) (fun d28 => ?_)
    (case a => k_is); (case l => k_is); (case c => k_is); (case k => k_is)
    refine' Tw.with_def (x := "_law_sum") (st := K03.sSum) (ps := ["_law_one", "_law_two"]) KX G ?a ?l ?c ?k (fun _ _ _ _ _ _ us hl => match us, hl with | [_, _], _ => rfl) (fun d29 => ?_)
    (case a => k_is); (case l => k_is); (case c => k_is); (case k => k_is)
    refine' Tw.with_def (x := "_law_scaled") (st := K03.sLScaled) (ps := ["_law_line_here", "_law_by"]) KX G ?a ?l ?c ?k (fun _ _ _ _ _ _ us hl => match us, hl with | [_, _], _ => rfl) (fun d30 => ?_)
    (case a => k_is); (case l => k_is); (case c => k_is); (case k => k_is)
    refine' Tw.with_def (x := "_law_product") (st := K03.sProd) (ps := ["_law_one", "_law_two"]) KX G ?a ?l ?c ?k (fun _ _ _ _ _ _ us hl => match us, hl with | [_, _], _ => rfl) (fun d31 => ?_)
    (case a => k_is); (case l => k_is); (case c => k_is); (case k => k_is)
    refine' Tw.with_def (x := "_law_power") (st := K03.sPow) (ps := ["_law_line_here", "_law_few"]) KX G ?a ?l ?c ?k (fun _ _ _ _ _ _ us hl => match us, hl with | [_, _], _ => rfl) (fun d32 => ?_)
    (case a => k_is); (case l => k_is); (case c => k_is); (case k => k_is)
    refine' Tw.with_def (x := "_law_slope") (st := K03.sSlope) (ps := ["_law_line_here"]) KX G ?a ?l ?c ?k (fun _ _ _ _ _ _ us hl => match us, hl with | [_], _ => rfl) (fun d33 => ?_)
    (case a => k_is); (case l => k_is); (case c => k_is); (case k => k_is)
    refine' Tw.with_def (x := "_law_thin") (st := K03.sThin) (ps := ["_law_line_here"]) KX G ?a ?l ?c ?k (fun _ _ _ _ _ _ us hl => match us, hl with | [_], _ => rfl) (fun d34 => ?_)
    (case a => k_is); (case l => k_is); (case c => k_is); (case k => k_is)
    refine' Tw.with_def (x := "_law_prime") (st := K03.sPrime) (ps := ["_law_line_here"]) KX G ?a ?l ?c ?k (fun _ _ _ _ _ _ us hl => match us, hl with | [_], _ => rfl) (fun d35 => ?_)
    (case a => k_is); (case l => k_is); (case c => k_is); (case k => k_is)
    refine' Tw.with_def (x := "_law_rest") (st := K03.sRest) (ps := ["_law_one", "_law_two"]) KX G ?a ?l ?c ?k (fun _ _ _ _ _ _ us hl => match us, hl with | [_, _], _ => rfl) (fun d36 => ?_)
    (case a => k_is); (case l => k_is); (case c => k_is); (case k => k_is)
    refine' Tw.with_def (x := "_law_shared") (st := K03.sLShared) (ps := ["_law_one", "_law_two"]) KX G ?a ?l ?c ?k (fun _ _ _ _ _ _ us hl => match us, hl with | [_, _], _ => rfl) (fun d37 => ?_)
    (case a => k_is); (case l => k_is); (case c => k_is); (case k => k_is)
    refine' Tw.with_def (x := "_law_over") (st := K03.sOver) (ps := ["_law_one", "_law_two"]) KX G ?a ?l ?c ?k (fun _ _ _ _ _ _ us hl => match us, hl with | [_, _], _ => rfl) (fun d38 => ?_)
    (case a => k_is); (case l => k_is); (case c => k_is); (case k => k_is)
    refine' Tw.with_def (x := "_law_plain") (st := K03.sPlain) (ps := ["_law_line_here"]) KX G ?a ?l ?c ?k (fun _ _ _ _ _ _ us hl => match us, hl with | [_], _ => rfl) (fun d39 => ?_)
    (case a => k_is); (case l => k_is); (case c => k_is); (case k => k_is)
    refine' Tw.with_def (x := "_law_least") (st := K03.sLeast) (ps := ["_law_own_here"]) KX G ?a ?l ?c ?k (fun _ _ _ _ _ _ us hl => match us, hl with | [_], _ => rfl) (fun d40 => ?_)
    (case a => k_is); (case l => k_is); (case c => k_is); (case k => k_is)
    refine' Tw.with_def (x := "_law_own") (st := K03.sOwn) (ps := ["_law_well_here"]) KX G ?a ?l ?c ?k (fun _ _ _ _ _ _ us hl => match us, hl with | [_], _ => rfl) (fun d41 => ?_)
    (case a => k_is); (case l => k_is); (case c => k_is); (case k => k_is)
    refine' Tw.with_def (x := "_law_made") (st := K03.sMade) (ps := ["_law_well_here"]) KX G ?a ?l ?c ?k (fun _ _ _ _ _ _ us hl => match us, hl with | [_], _ => rfl) (fun d42 => ?_)
    (case a => k_is); (case l => k_is); (case c => k_is); (case k => k_is)
    refine' Tw.with_def (x := "_law_right") (st := K03.sRight) (ps := ["_law_well_here"]) KX G ?a ?l ?c ?k (fun _ _ _ _ _ _ us hl => match us, hl with | [_], _ => rfl) (fun d43 => ?_)
    (case a => k_is); (case l => k_is); (case c => k_is); (case k => k_is)
    refine' Tw.with_def (x := "law") (st := K03.sLaw) (ps := ["_law_script"]) KX G ?a ?l ?c ?k (fun _ _ _ _ _ _ us hl => match us, hl with | [_], _ => rfl) (fun d44 => ?_)
    (case a => k_is); (case l => k_is); (case c => k_is); (case k => k_is)
    refine' Tw.with_no (x := "isinstance") KX G ?z (fun z0 => ?_)
    (case z => k_is)
    refine' Tw.with_no (x := "int") KX G ?z (fun z1 => ?_)
    (case z => k_is)
    refine' Tw.with_no (x := "bool") KX G ?z (fun z2 => ?_)
    (case z => k_is)
    refine' Tw.with_no (x := "tuple") KX G ?z (fun z3 => ?_)
    (case z => k_is)
    refine' Tw.with_no (x := "all") KX G ?z (fun z4 => ?_)
    (case z => k_is)
    refine' Tw.with_no (x := "len") KX G ?z (fun z5 => ?_)
    (case z => k_is)
    refine' Tw.with_no (x := "list") KX G ?z (fun z6 => ?_)
    (case z => k_is)
    refine' Tw.with_no (x := "divmod") KX G ?z (fun z7 => ?_)
    (case z => k_is)
    refine' Tw.with_no (x := "range") KX G ?z (fun z8 => ?_)
    (case z => k_is)
    refine' Tw.with_no (x := "max") KX G ?z (fun z9 => ?_)
    (case z => k_is)
    refine' Tw.with_no (x := "min") KX G ?z (fun z10 => ?_)
    (case z => k_is)
    refine' Tw.with_no (x := "abs") KX G ?z (fun z11 => ?_)
    (case z => k_is)
    refine' Tw.with_no (x := "repr") KX G ?z (fun z12 => ?_)
    (case z => k_is)
    refine' Tw.with_no (x := "reversed") KX G ?z (fun z13 => ?_)
    (case z => k_is)
    refine' Tw.with_no (x := "any") KX G ?z (fun z14 => ?_)
    (case z => k_is)
    refine' Tw.with_no (x := "enumerate") KX G ?z (fun z15 => ?_)
    (case z => k_is)
    refine' K03.with_name (x := "gcd") (v := .builtin "math.gcd") KX G ?z (fun n_gc => ?_)
    (case z => k_is)
    refine' K03.with_int (x := "SHORT") (i := 6) KX G ?z (fun n_ns => ?_)
    (case z => k_is)
    exact Tw.end_lawB d44 hmg (fun base hN => K03.whole ⟨z0, z1, z2, z3, z4, z5, z6, z7, z8, z9, z10, z11, z12, z13, z14, z15, n_gc⟩ rfl n_ns d0 d1 d2 d3 d4 d5 d6 d7 d8 d9 d10 d11 d12 d13 d14 d15 d16 d17 d18 d19 d20 d21 d22 d23 d24 d25 d26 d27 d28 d29 d30 d31 d32 d33 d34 d35 d36 d37 d38 d39 d40 d41 d42 d43 d44 base hN) (fun _ _ _ _ _ _ _ => rfl)
