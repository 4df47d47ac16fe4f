import PyProof.Rows.All
import Wide.All
import OpenK.AllK
import Wide.FinOn
import HandS.ForMost
import HandS.IsInst
import HandS.TupAny
import HandS.Flow
import HandS.Evl
import HandS.TupMul
import HandS.SortKw
import HandS.WideBits
import HandS.Gcd
import HandS.Rev
import HandS.Style
import KE.DataMinMax
import KE.GoesMore
import PyProof.Draws
import HandS.Wide
import PySem.Challenge.RW_twoletters_k22_whole_sums_products_value
set_option Elab.async false
set_option linter.all false
set_option maxRecDepth 100000
set_option maxHeartbeats 4000000
/-! a def's promise where no container is being written out (for repr) -/
namespace Tw
open PySem PySem.Spec PyProof.Rows L2

/-- nothing is being written out around here -/
abbrev Qt (A : Around) : Prop := A.guards = some []

structure FnG (P : Program) (w : World) (K : PySem.W.Frag) (mg : Str → Option Value) (base : Heap) (k : Nat) (f : Addr)
    (fd : FuncData) (ps : List Str) (sp : Sp) : Prop where
  many : ∀ vs H Q E, sp vs H Q E → vs.length = ps.length
  goes : ∀ (A : Around) (out : List Env) (s : Shared) (H : Hp) (g : Args) (us : List Value) (vs : List V) (Q : VK) (E : XK),
    Qt A → Room k A → Env0 P w K mg base A out s H → BindsTo s fd g (ps.zip us) → Vals vs us → sp vs H Q E →
    codeAny (model P w) A (.call (.ref f) g) (CR CX0 out P w H s Q E) s

section
variable {P : Program} {w : World} {K : PySem.W.Frag} {mg : Str → Option Value} {base : Heap} {k j : Nat} {f : Addr}
  {fd : FuncData} {ps : List Str} {sp : Sp}
theorem FnG.of (F : FnOk P w K mg base CX0 k f fd ps sp) : FnG P w K mg base k f fd ps sp :=
  ⟨F.len, fun A out s H g us vs Q E _ hr => F.run A out s H g us vs Q E hr⟩
theorem FnG.up (F : FnG P w K mg base j f fd ps sp) (h : j ≤ k) : FnG P w K mg base k f fd ps sp :=
  ⟨F.many, fun A out s H g us vs Q E hq hr => F.goes A out s H g us vs Q E hq (hr.mono h)⟩
theorem FnG.imp {sp' : Sp} (F : FnG P w K mg base k f fd ps sp) (h : ∀ vs H Q E, sp' vs H Q E → sp vs H Q E) :
    FnG P w K mg base k f fd ps sp' :=
  ⟨fun vs H Q E q => F.many vs H Q E (h _ _ _ _ q),
   fun A out s H g us vs Q E hq hr he hb hv hs => F.goes A out s H g us vs Q E hq hr he hb hv (h _ _ _ _ hs)⟩

/-- a def by its body, the place where it runs being quiet -/
theorem Fun.okG {x qual : Str} {st : Stmt} {N : List Str} (F : Fun K x qual st f fd) (S : FnScope N ps (defScope st))
    (many : ∀ vs H Q E, sp vs H Q E → vs.length = ps.length)
    (hbody : ∀ (cdv : Value) (A : Around) (out : List Env) (s : Shared) (H : Hp) (vs : List V) (Q : VK) (E : XK),
      Qt (A.deeper (envOfC qual (defScope st) s.heap.objs.size f cdv)) →
      Room k (A.deeper (envOfC qual (defScope st) s.heap.objs.size f cdv)) → sp vs H Q E →
      ∃ t, PSs (cxOf CX0 P w K mg base N qual (defScope st) f cdv A out s H E).nox (defBody st) t ∧
        t { nx := fun _ H' => Q .non H', rt := Q } (start N vs) H) : FnG P w K mg base (k + 1) f fd ps sp := by
  obtain ⟨oc, od, kV, doc, pm, an, cdv, ct, osl, rfl, lk, hcd⟩ := F.ex
  refine ⟨many, fun A out s H g us vs Q E hq hr e0 hb r hsp => ?_⟩
  have hlen : vs.length = ps.length := many _ _ _ _ hsp
  have inS : ∀ b o, base.get? b = some o → s.heap.get? b = some o := fun b o e => (e0.bs b o e).1
  have kx : K.In s.heap := e0.mod.kin.keeps inS
  have nolim : s.heap.NoLimit := e0.mod.nolimit.keeps inS
  have kinds : ∀ y ∈ ps.zip us, (defScope st).names.lookup y.1 = some .local ∨
      ((defScope st).names.lookup y.1 = some .cell ∧
        ((cellsFrom (s.heap.objs.size + 1) (defScope st).names []).lookup y.1).isSome = true) := by
    rintro ⟨n, v⟩ hy
    cases S.par n (List.of_mem_zip hy).1 with
    | inl q => exact Or.inl q
    | inr q => exact Or.inr ⟨q, PySem.W.cellsFrom_some _ _ _ (Or.inl q)⟩
  have rec1 := PySem.W.codeRec_of kx hcd
  refine codeAny_call_function hr.depth (kx _ _ lk) rfl S.co S.gen rfl rec1 (hb _ _ _ _ ?_)
  refine wpAny_newFunctionEnv_cells S.kind kinds fun env he s1 x => ?_
  subst he
  refine ⟨nolim.keeps x.toInCall.keep, codeAny_func ?_⟩
  have hq' : Qt (A.deeper (envOfC qual (defScope st) s.heap.objs.size f cdv)) := hq
  obtain ⟨t, ht, hw⟩ := hbody cdv A out s H vs Q E hq' (hr.deeper _) hsp
  have I := inv_start (CX := CX0) (cd := cdv) (E := E) (f := f) (qual := qual) S hr.hd e0 hlen r x
  refine wpAny_mono (ht.nox.run [] s1 (start N vs) H _ I hw) (fun fl s' hs => ?_) fun e s' hs => hs
  cases fl with
  | ret u => obtain ⟨v, σ', H', J, rv, q⟩ := hs; exact ⟨v, H', J.os, J.bare, J.base, J.hok, rv, q⟩
  | next => obtain ⟨σ', H', J, q⟩ := hs; exact ⟨V.non, H', J.os, J.bare, J.base, J.hok, rfl, q⟩
  | brk => obtain ⟨_, _, _, q⟩ := hs; exact q.elim
  | cont => obtain ⟨_, _, _, q⟩ := hs; exact q.elim
end

section
variable {X : Cx} {k : Nat} {f : Addr} {fd : FuncData} {ps : List Str} {sp : Sp} {x : Str} {p pos : Pos} {e : Expr}
  {es : List Expr} {t : TA}
/-- f(e, ..), f a def that wants quiet -/
theorem pe_callG (F : FnG X.prog X.w X.K X.mg X.base k f fd ps sp) (hq : Qt X.A) (hr : Room k X.A) (hg : Gl X x)
    (hm : X.mg x = some (.ref f)) (hk : PySem.W.keepIn X.K (.ref f) = true) (hb : Binds X.K fd ps [])
    (ha : PA X (e :: es) t) (hdb : (x == ("__debug__" : Str)) = false := by decide)
    (he : starEach (e :: es) X.env = (false, eval e X.env) :: starEach es X.env := by rfl)
    (hpl : (backTo pos (starEach es X.env)).any (·.1) = false := by rfl) :
    PE X (.Call (.Name x p) (e :: es) [] pos) (tCall sp [] E0 t) := by
  refine ⟨fun pins s σ H Q I h => wpAny_Call_Name_kw (ld_glob I hg hm ?_ hdb)⟩
  refine PySem.W.callWith_K (h₀ := X.base) I.ok.mod.kin hk ?_ he hpl
  refine thn (ha.run pos pins s σ H _ I h) ?_
  rintro us s1 ⟨vs, H1, I1, r, q⟩
  refine ⟨I1.kIn, wpAny_call ?_⟩
  have q' : sp vs H1 Q E0 := by simpa using q
  have hl : us.length = ps.length := by rw [← Vals.length r]; exact F.many _ _ _ _ q'
  have b := hb s1 us I1.kIn (by simpa using hl)
  rw [List.append_nil] at b
  refine codeAny_mono (F.goes X.A X.stack s1 H1 ⟨us, []⟩ us vs Q E0 hq hr I1.env0 b r q') fun r s' hh => ?_
  cases r with
  | error z => exact False.elim hh
  | ok fl =>
    cases fl with
    | ret u => exact I1.after hh
    | next => exact False.elim hh
    | brk => exact False.elim hh
    | cont => exact False.elim hh
end
end Tw

set_option Elab.async false
set_option linter.all false
set_option maxRecDepth 100000
set_option maxHeartbeats 4000000
/-! the end of a law whose def wants quiet -/
namespace Tw
open PySem PySem.Spec PyProof.Rows L2

/-- a promise wide enough that says nothing of exceptions, over a heap in which the script alone may be known -/
theorem law_quiet {P : Program} {w : World} {K : PySem.W.Frag} {mg mb : Str → Option Value} {k : Nat} {fa a : Addr} {fd : FuncData}
    {x : Str} {sp : Sp} {s₁ : Shared} {vs : List Value} {ns : List Int} (KX : K.In s₁.heap) (hns : s₁.heap.Ns mainGlobals mg)
    (hb : s₁.heap.Ns builtinsNs mb) (hbb : ∀ x : Str, x ≠ "__name__" → mb x = bootBuiltins x) (hlim : s₁.heap.NoLimit)
    (hg : s₁.gens = #[]) (ha : s₁.heap.get? a = some { cls := .type "list", data := .seq vs.toArray }) (hi : IntsAre vs ns)
    (hl : ns.length ≤ sizeLine) (hr : Room k callerA)
    (F : ∀ base : Heap, K.In base → base.Ns mainGlobals mg → FnG P w K mg base k fa fd [x] sp)
    (hbind : ∀ (s : Shared) (u : Value), BindsTo s fd ⟨[u], []⟩ [(x, u)])
    (hsp : ∀ H : Hp, Only H → SqL K H a (ns.map V.int) → sp [.ref a] H (fun v _ => v = .bl true) E0) :
    codeAny (model P w) callerA (.call (.ref fa) ⟨[.ref a], []⟩)
      (fun r s' => r = .ok (.ret (.bool true)) ∧ OldK s₁.heap s'.heap ∧ s'.os = s₁.os ∧ AllBare s'.gens) s₁ := by
  have hv := vals_ints hi
  have hn := hi.length
  have main : ∀ H : Hp, Only H → SqL K H a (ns.map V.int) → HOk P w H s₁.heap → (∀ b u, H b = some u → b = a ∧ K.lookup a = none) →
      codeAny (model P w) callerA (.call (.ref fa) ⟨[.ref a], []⟩)
        (fun r s' => r = .ok (.ret (.bool true)) ∧ OldK s₁.heap s'.heap ∧ s'.os = s₁.os ∧ AllBare s'.gens) s₁ := by
    intro H hO hS hok hA
    have dictFree : ∀ {b : Addr} {o : Obj} {es : Array DictEntry} {ep : Nat},
        s₁.heap.get? b = some o → o.data = .dict es ep → H b = none := by
      intro b o es ep e d
      cases q : H b with
      | none => rfl
      | some u =>
        obtain ⟨e1, _⟩ := hA b u q
        rw [e1, ha] at e
        injection e with e
        rw [← e] at d
        exact absurd d (by intro z; cases z)
    have nsB : ∀ {b : Addr} {m : Str → Option Value}, s₁.heap.Ns b m → (hidT s₁.heap H).Ns b m := by
      rintro b m ⟨o, es, ep, e, d, r⟩
      exact ⟨o, es, ep, hidT_get e (dictFree e d), d, r⟩
    have kB : K.In (hidT s₁.heap H) := by
      intro b o e
      refine hidT_get (KX b o e) ?_
      cases q : H b with
      | none => rfl
      | some u =>
        obtain ⟨e1, e2⟩ := hA b u q
        rw [e1, e2] at e
        cases e
    have hM : Mod K mg (hidT s₁.heap H) := by
      obtain ⟨mc, l1, l2⟩ := hlim
      exact ⟨kB, nsB hns, ⟨mb, nsB hb, hbb⟩, ⟨mc, nsB l1, l2⟩⟩
    have noB : ∀ b : Addr, b ∈ frs ([] : List Env) → False := fun b z => by simp [frs] at z
    have e0 : Env0 P w K mg (hidT s₁.heap H) callerA [] s₁ H :=
      ⟨rfl, hM, fun b o e => of_hidT e, Nat.le_of_eq (hidT_size _ _), trivial, fun b z => (noB b z).elim, hok, .of_eq hg⟩
    have go := (F _ kB (nsB hns)).goes callerA [] s₁ H ⟨[.ref a], []⟩ [.ref a] [.ref a] (fun v _ => v = .bl true) E0 rfl hr e0
      (hbind s₁ (.ref a)) (.cons rfl .nil) (hsp H hO hS)
    refine codeAny_mono go fun r s' h => ?_
    cases r with
    | error e => exact False.elim h
    | ok fl =>
      cases fl with
      | next => exact False.elim h
      | brk => exact False.elim h
      | cont => exact False.elim h
      | ret u =>
        obtain ⟨v, H', os, bare, un, hok', rv, q⟩ := h
        subst q
        cases (show u = Value.bool true from rv)
        refine ⟨rfl, OldK.of_keep fun b o e => ?_, os, bare⟩
        cases q : H b with
        | none => exact un.keep b o e q (fun z => noB b z) (by simp)
        | some u =>
          cases hO b with
          | inl z => rw [q] at z; cases z
          | inr z =>
            obtain ⟨ob, xs, z⟩ := z
            have f1 := (hok b _ z).1
            have f2 := (hok' b _ (un.frzs b ob _ z)).1
            rw [e] at f1
            rw [f2, ← f1]
  cases hk : K.lookup a with
  | some o =>
    have e := KX a o hk
    rw [ha] at e
    injection e with e
    subst e
    refine main (fun _ => none) (fun _ => Or.inl rfl) (Or.inr ⟨_, vs.toArray, _, hk, rfl, rfl, rfl, ?_, by simpa using hv⟩) ?_ ?_
    · rw [List.size_toArray, hn]; exact hl
    · intro b u z; exact absurd z (by intro y; cases y)
    · intro b u z; exact absurd z (by intro y; cases y)
  | none =>
    let Ha : Hp := fun b => if b = a then some (.frz { cls := .type "list", data := .seq vs.toArray } (.lst (ns.map V.int))) else none
    have ya : ∀ b, b = a → Ha b = some (.frz { cls := .type "list", data := .seq vs.toArray } (.lst (ns.map V.int))) := fun b h => if_pos h
    have na : ∀ b, b ≠ a → Ha b = none := fun b h => if_neg h
    refine main Ha (fun b => ?_) (Or.inl (Or.inr ⟨_, ya a rfl⟩)) (fun b u z => ?_) (fun b u z => ?_)
    · by_cases h : b = a
      · exact Or.inr ⟨_, _, ya b h⟩
      · exact Or.inl (na b h)
    · by_cases h : b = a
      · rw [ya b h] at z
        injection z with z
        subst z h
        exact ⟨ha, by rw [List.length_map]; exact hl, vs, _, hv, ha⟩
      · rw [na b h] at z; cases z
    · by_cases h : b = a
      · exact ⟨h, hk⟩
      · rw [na b h] at z; cases z

theorem walk_quiet {l : PySem.W.OpenLaw} {n k : Nat} {q : Program} {loose : List Str} {XP : (Str → Option Value) → Heap → Prop}
    {YP : World → Heap → Prop} {d : DefRec} {K : Params → PySem.W.Frag} {sp : PySem.W.Frag → Sp} {x : Str} (hn : l.most = some n)
    (hn2 : n ≤ sizeLine) (hdf : d.params.defaults = []) (hr : Room k callerA)
    (hY : ∀ (w : World) (h : Heap), YP w h → (K w.params).In h)
    (F : ∀ (w : World) (mg : Str → Option Value) (fa : Addr) (h : Heap), (K w.params).In h → h.Ns mainGlobals mg →
      mg d.name = some (.ref fa) → ∃ fd : FuncData, (∀ (s : Shared) (u : Value), BindsTo s fd ⟨[u], []⟩ [(x, u)]) ∧
        ∀ base : Heap, (K w.params).In base → base.Ns mainGlobals mg → FnG l.prog w (K w.params) mg base k fa fd [x] (sp (K w.params)))
    (hsp : ∀ (K : PySem.W.Frag) (H : Hp) (a : Addr) (ns : List Int), ns.length ≤ n → Only H → SqL K H a (ns.map V.int) →
      sp K [.ref a] H (fun v _ => v = .bl true) E0) :
    PySem.W.WalkO q loose XP YP l.row.toRowW d [] (fun f vs => PySem.call f vs) := by
  refine Att.attach_call hn hdf ?_
  intro w s₀ s₁ mg mb fa o pm cd doc a vs ns G Y ho hd hcd hmg hobj hints hlen hg
  have kx := hY w _ Y
  obtain ⟨fd, hb, hF⟩ := F w mg fa _ kx G.T.g hmg
  exact law_quiet kx G.T.g G.T.b G.T.builtins G.T.nolimit hg hobj hints (Nat.le_trans hlen hn2) hr hF hb
    fun H hO hS => hsp _ H a ns hlen hO hS
end Tw

set_option Elab.async false
set_option linter.all false
set_option maxRecDepth 100000
set_option maxHeartbeats 4000000
/-! data: what a value is, over the heap; the well at a -/
namespace Tw
open PySem PySem.Spec PyProof.Rows L2

/-- all that was known is known, but for what stands at a -/
def Kp (a : Addr) (H H' : Hp) : Prop := ∀ b o, b ≠ a → H b = some o → H' b = some o
/-- the well: a list of three ints -/
def We (a : Addr) (H : Hp) : Prop := ∃ x y z : Int, H a = some (.lst [.int x, .int y, .int z])
theorem Kp.refl (a : Addr) (H : Hp) : Kp a H H := fun _ _ _ h => h
theorem Kp.trans {a : Addr} {H H1 H2 : Hp} (x : Kp a H H1) (y : Kp a H1 H2) : Kp a H H2 := fun b o n h => y b o n (x b o n h)
theorem Kp.of {a : Addr} {H H' : Hp} (x : Same H H') : Kp a H H' := fun b o _ h => x b o h
theorem We.to {a : Addr} {H H' : Hp} (x : Same H H') (w : We a H) : We a H' := by
  obtain ⟨i, j, k, h⟩ := w
  exact ⟨i, j, k, x _ _ h⟩
theorem We.ne {a p : Addr} {H : Hp} (w : We a H) (h : H p = none) : p ≠ a := by
  obtain ⟨i, j, k, e⟩ := w
  exact fun z => by rw [z, e] at h; cases h
theorem We.some {a : Addr} {H : Hp} (w : We a H) : H a ≠ none := by
  obtain ⟨i, j, k, e⟩ := w
  rw [e]
  exact fun z => by cases z
theorem same_new {H : Hp} {p : Addr} {o : HO} (h : H p = none) : Same H (upd H p o) := fun b u e => by
  rw [upd_ne (ne_of_none e h)]; exact e
theorem kp_new {a : Addr} {H : Hp} {p : Addr} {o : HO} (h : H p = none) : Kp a H (upd H p o) := Kp.of (same_new h)
theorem we_new {a : Addr} {H : Hp} {p : Addr} {o : HO} (w : We a H) (h : H p = none) : We a (upd H p o) := w.to (same_new h)
theorem sz {n : Nat} (h : n ≤ 100000) : n ≤ sizeLine := Nat.le_trans h (by decide)

mutual
/-- the value is the datum; nothing of it is the well -/
inductive Da (a : Addr) (H : Hp) : V → PyData → Prop
  | non : Da a H .non .none
  | bl (b : Bool) : Da a H (.bl b) (.bool b)
  | int (i : Int) : Da a H (.int i) (.int i)
  | str (x : Str) : Da a H (.str x) (.str x)
  | lst {p : Addr} {xs : List V} {ds : List PyData} : p ≠ a → H p = some (.lst xs) → DaAll a H xs ds → Da a H (.ref p) (.list ds)
  | tup {p : Addr} {xs : List V} {ds : List PyData} : p ≠ a → H p = some (.tup xs) → DaAll a H xs ds → Da a H (.ref p) (.tuple ds)
  | dct {p : Addr} : p ≠ a → H p = some (.dK []) → Da a H (.ref p) (.dict [])
inductive DaAll (a : Addr) (H : Hp) : List V → List PyData → Prop
  | nil : DaAll a H [] []
  | cons {v : V} {vs : List V} {d : PyData} {ds : List PyData} : Da a H v d → DaAll a H vs ds → DaAll a H (v :: vs) (d :: ds)
end
section
variable {a : Addr} {H H' : Hp}
mutual
theorem Da.kp (k : Kp a H H') : ∀ {v : V} {d : PyData}, Da a H v d → Da a H' v d
  | _, _, .non => .non
  | _, _, .bl b => .bl b
  | _, _, .int i => .int i
  | _, _, .str x => .str x
  | _, _, .lst n h t => .lst n (k _ _ n h) (DaAll.kp k t)
  | _, _, .tup n h t => .tup n (k _ _ n h) (DaAll.kp k t)
  | _, _, .dct n h => .dct n (k _ _ n h)
theorem DaAll.kp (k : Kp a H H') : ∀ {vs : List V} {ds : List PyData}, DaAll a H vs ds → DaAll a H' vs ds
  | _, _, .nil => .nil
  | _, _, .cons h t => .cons (Da.kp k h) (DaAll.kp k t)
end
theorem Da.same (s : Same H H') {v : V} {d : PyData} (h : Da a H v d) : Da a H' v d := h.kp (Kp.of s)
theorem DaAll.same (s : Same H H') {v : List V} {d : List PyData} (h : DaAll a H v d) : DaAll a H' v d := h.kp (Kp.of s)
theorem DaAll.len : ∀ {vs : List V} {ds : List PyData}, DaAll a H vs ds → vs.length = ds.length
  | _, _, .nil => rfl
  | _, _, .cons _ t => congrArg Nat.succ t.len
theorem DaAll.get : ∀ {vs : List V} {ds : List PyData} {i : Nat} {v : V}, DaAll a H vs ds → vs[i]? = some v → ∃ d, ds[i]? = some d ∧ Da a H v d
  | _, _, _, _, .nil, h => by simp at h
  | _, _, 0, _, .cons h _, e => by simp at e; subst e; exact ⟨_, rfl, h⟩
  | _, _, i + 1, _, .cons _ t, e => by
    obtain ⟨d, h1, h2⟩ := t.get (i := i) (by simpa using e)
    exact ⟨d, by simpa using h1, h2⟩
theorem DaAll.append : ∀ {vs ws : List V} {ds es : List PyData}, DaAll a H vs ds → DaAll a H ws es → DaAll a H (vs ++ ws) (ds ++ es)
  | _, _, _, _, .nil, t => t
  | _, _, _, _, .cons h t, u => .cons h (t.append u)
theorem DaAll.drop : ∀ {vs : List V} {ds : List PyData} (n : Nat), DaAll a H vs ds → DaAll a H (vs.drop n) (ds.drop n)
  | _, _, 0, h => h
  | _, _, _ + 1, .nil => .nil
  | _, _, n + 1, .cons _ t => t.drop n
theorem DaAll.take : ∀ {vs : List V} {ds : List PyData} (n : Nat), DaAll a H vs ds → DaAll a H (vs.take n) (ds.take n)
  | _, _, 0, _ => .nil
  | _, _, _ + 1, .nil => .nil
  | _, _, n + 1, .cons h t => .cons h (t.take n)
theorem DaAll.rev : ∀ {vs : List V} {ds : List PyData}, DaAll a H vs ds → DaAll a H vs.reverse ds.reverse
  | _, _, .nil => .nil
  | _, _, .cons h t => by
    rw [List.reverse_cons, List.reverse_cons]
    exact t.rev.append (.cons h .nil)
/-- a slice of the values, of the data -/
def cutD (ds : List PyData) (lo hi : Option Int) : List PyData := (ds.drop (HT.sIx ds.length 0 lo)).take (HT.sIx ds.length ds.length hi - HT.sIx ds.length 0 lo)
theorem DaAll.cut {vs : List V} {ds : List PyData} (lo hi : Option Int) (h : DaAll a H vs ds) : DaAll a H (cutV vs lo hi) (cutD ds lo hi) := by
  unfold cutV cutD
  rw [h.len]
  exact (h.drop _).take _

mutual
theorem Da.dp {K : PySem.W.Frag} : ∀ {v : V} {d : PyData}, Da a H v d → d.canLay0 = true → Dp K H v d
  | _, _, .non, _ => .non
  | _, _, .bl b, _ => .bl b
  | _, _, .int i, _ => .int i
  | _, _, .str x, _ => .str x
  | _, _, .lst n h t, c => .lst (SqL.of h) (DaAll.dp t (by simpa [PyData.canLay0] using c))
  | _, _, .tup n h t, c => .tup (SqT.of h) (DaAll.dp t (by simpa [PyData.canLay0] using c))
  | _, _, .dct n h, c => by simp [PyData.canLay0] at c
theorem DaAll.dp {K : PySem.W.Frag} : ∀ {vs : List V} {ds : List PyData}, DaAll a H vs ds → PyData.canLayAll0 ds = true → DpAll K H vs ds
  | _, _, .nil, _ => .nil
  | _, _, .cons (d := d) (ds := ds) h t, c => by
    have c' : d.canLay0 = true ∧ PyData.canLayAll0 ds = true := by simpa [PyData.canLayAll0] using c
    exact .cons (Da.dp h c'.1) (DaAll.dp t c'.2)
end
end

/-! ### written data -/
mutual
def litOf : Expr → Option PyData
  | .Constant c _ _ => match c with
    | .none => some .none
    | .bool b => some (.bool b)
    | .int i => some (.int i)
    | .str x => some (.str x)
    | _ => none
  | .UnaryOp .USub (.Constant (.int i) _ _) _ => some (.int (-i))
  | .BinOp (.Constant (.int i) _ _) .Pow (.Constant (.int j) _ _) _ => if 0 ≤ j ∧ j ≤ 1000 ∧ i.natAbs < 1000 then some (.int (i ^ j.toNat)) else none
  | .Tuple es _ _ => match litsOf es with
    | some ds => if ds.length ≤ 1000 then some (.tuple ds) else none
    | none => none
  | .List es _ => match litsOf es with
    | some ds => if ds.length ≤ 1000 then some (.list ds) else none
    | none => none
  | .Dict [] [] _ => some (.dict [])
  | _ => none
def litsOf : List Expr → Option (List PyData)
  | [] => some []
  | e :: es => match litOf e, litsOf es with
    | some d, some ds => some (d :: ds)
    | _, _ => none
end
theorem _root_.L2.PE.weak {X : Cx} {e : Expr} {t t' : TE} (h : PE X e t) (k : ∀ σ H Q, t' σ H Q → t σ H Q) : PE X e t' := ⟨fun p s σ H Q I q => h.run p s σ H Q I (k σ H Q q)⟩
theorem _root_.L2.PA.weak {X : Cx} {e : List Expr} {t t' : TA} (h : PA X e t) (k : ∀ σ H Q, t' σ H Q → t σ H Q) : PA X e t' := ⟨fun o p s σ H Q I q => h.run o p s σ H Q I (k σ H Q q)⟩
/-- a new datum; a is any known place -/
def tLit (d : PyData) : TE := fun _ H Q => ∃ a, H a ≠ none ∧ ∀ v H', Same H H' → Da a H' v d → Q v H'
def tLits (ds : List PyData) : TA := fun _ H Q => ∃ a, H a ≠ none ∧ ∀ vs H', Same H H' → DaAll a H' vs ds → Q vs H'
theorem same_some {H H' : Hp} {a : Addr} (s : Same H H') (h : H a ≠ none) : H' a ≠ none := by
  cases e : H a with
  | none => exact absurd e h
  | some o => rw [s a o e]; exact fun z => by cases z
theorem new_ne {H : Hp} {a p : Addr} (h : H a ≠ none) (n : H p = none) : p ≠ a := fun z => h (by rw [← z]; exact n)
theorem star_lit {e : Expr} {es : List Expr} {env : Env} {d : PyData} (h : litOf e = some d) : starEach (e :: es) env = (false, eval e env) :: starEach es env := by
  cases e <;> first | rfl | (simp [litOf] at h)
section
variable {X : Cx}
mutual
theorem pe_lit : ∀ (e : Expr) {d : PyData}, litOf e = some d → PE X e (tLit d)
  | .Constant .none _ _, _, h => by
    have e := Option.some.inj h; subst e
    exact pe_non.weak fun σ H Q ⟨a, _, q⟩ => q _ _ (Same.refl H) .non
  | .Constant (.bool b) _ _, _, h => by
    have e := Option.some.inj h; subst e
    exact pe_bl.weak fun σ H Q ⟨a, _, q⟩ => q _ _ (Same.refl H) (.bl b)
  | .Constant (.int i) _ _, _, h => by
    have e := Option.some.inj h; subst e
    exact pe_int.weak fun σ H Q ⟨a, _, q⟩ => q _ _ (Same.refl H) (.int i)
  | .Constant (.str x) _ _, _, h => by
    have e := Option.some.inj h; subst e
    exact pe_str.weak fun σ H Q ⟨a, _, q⟩ => q _ _ (Same.refl H) (.str x)
  | .UnaryOp .USub (.Constant (.int i) _ _) _, _, h => by
    have e := Option.some.inj h; subst e
    exact (pe_un un_neg pe_int).weak fun σ H Q ⟨a, _, q⟩ => ⟨i, rfl, q _ _ (Same.refl H) (.int (-i))⟩
  | .BinOp (.Constant (.int i) _ _) .Pow (.Constant (.int j) _ _) _, d, h => by
    simp only [litOf] at h
    split at h
    · rename_i c
      have e := Option.some.inj h; subst e
      refine (pe_op op_pow pe_int pe_int).weak fun σ H Q ⟨a, _, q⟩ => ⟨i, j, rfl, rfl, ⟨c.1, by have := c.2.1; omega, by have := c.2.2; omega⟩, q _ _ (Same.refl H) (.int _)⟩
    · cases h
  | .Tuple es _ _, d, h => by
    simp only [litOf] at h
    split at h
    · rename_i ds hd
      split at h
      · rename_i c
        have e := Option.some.inj h; subst e
        refine (pe_tup (pa_lits es hd)).weak fun σ H Q ⟨a, n, q⟩ => ⟨a, n, fun vs H1 s1 d1 => ⟨sz (by rw [d1.len]; omega), fun p hp => ?_⟩⟩
        have s2 := same_new (o := .tup vs) hp
        exact q _ _ (s1.trans s2) (.tup (new_ne (same_some s1 n) hp) upd_same (d1.same s2))
      · cases h
    · cases h
  | .List es _, d, h => by
    simp only [litOf] at h
    split at h
    · rename_i ds hd
      split at h
      · rename_i c
        have e := Option.some.inj h; subst e
        refine (pe_lst (pa_lits es hd)).weak fun σ H Q ⟨a, n, q⟩ => ⟨a, n, fun vs H1 s1 d1 => ⟨sz (by rw [d1.len]; omega), fun p hp => ?_⟩⟩
        have s2 := same_new (o := .lst vs) hp
        exact q _ _ (s1.trans s2) (.lst (new_ne (same_some s1 n) hp) upd_same (d1.same s2))
      · cases h
    · cases h
  | .Dict [] [] _, d, h => by
    have e := Option.some.inj h; subst e
    refine pe_dnewK.weak fun σ H Q ⟨a, n, q⟩ => fun p hp => ?_
    exact q _ _ (same_new hp) (.dct (new_ne n hp) upd_same)
theorem pa_lits : ∀ (es : List Expr) {ds : List PyData}, litsOf es = some ds → PA X es (tLits ds)
  | [], _, h => by
    have e := Option.some.inj h; subst e
    exact pa_nil.weak fun σ H Q ⟨a, _, q⟩ => q _ _ (Same.refl H) .nil
  | e :: es, ds, h => by
    simp only [litsOf] at h
    split at h
    · rename_i d ds' hd hds
      have z := Option.some.inj h; subst z
      refine (pa_cons (pe_lit e hd) (pa_lits es hds) (star_lit hd)).weak fun σ H Q ⟨a, n, q⟩ => ⟨a, n, fun v H1 s1 d1 => ⟨a, same_some s1 n, fun vs H2 s2 d2 => ?_⟩⟩
      exact q _ _ (s1.trans s2) (.cons (d1.same s2) d2)
    · cases h
end
end
end Tw

set_option Elab.async false
set_option linter.all false
set_option maxRecDepth 100000
set_option maxHeartbeats 4000000
/-! rules: texts of data, a tuple beside the empty one, a tuple turned round, kinds of data -/
namespace Tw
open PySem PySem.Spec PyProof.Rows L2
section
variable {X : Cx}

/-- repr of a list, a tuple -/
def rShow (K : PySem.W.Frag) : List V → Hp → VK → Prop := fun xs H Q =>
  ∃ p d, xs = [.ref p] ∧ Dp K H (.ref p) d ∧ SeqAt.shaped d = true ∧ d.showable = true ∧ d.shown.length ≤ sizeLine ∧ Q (.str d.shown) H
theorem noDict_of {d : PyData} (h : SeqAt.shaped d = true) : d.hasDict = false := by
  have c := SeqAt.canLay_of_shaped h
  exact PyData.hasDict_of_canLay d c
theorem call_show (hq : Qt X.A) (hu : X.A.units + 70 < cLine) : CallR X (.builtin "repr") (rShow X.K) := by
  intro pins s σ H xs us Q I r h
  obtain ⟨p, d, rfl, hd, hs, hw, hz, q⟩ := h
  obtain ⟨u, rfl, rx⟩ := vals1 r
  obtain ⟨as, rd⟩ := Dp.reads I d _ u hd rx
  cases rx
  have dp := SeqAt.depth_of_shaped hs
  refine repr_of_reads' rd hw (fun z => ?_) hq (by omega) (fun _ _ e => e) (fun h' t k keep => ?_) hz
  · rw [noDict_of hs] at z; cases z
  · exact ⟨.str d.shown, H, I.kept keep, ⟨_, rfl⟩, q⟩

/-- a tuple beside an empty one -/
def rT0 (ne : Bool) (K : PySem.W.Frag) : R2 := fun x y H Q =>
  ∃ a b xs ys, x = .ref a ∧ y = .ref b ∧ SqT K H a xs ∧ SqT K H b ys ∧ ys = [] ∧ Q (.bl (if ne then !xs.isEmpty else xs.isEmpty)) H
theorem t0_val {xs : List V} {its its2 : List Value} (r1 : Vals xs its) (r2 : Vals [] its2) :
    ((List.range (min its.toArray.size its2.toArray.size)).all (fun _ => true) && its.toArray.size == its2.toArray.size) = xs.isEmpty := by
  cases r2
  cases r1 with
  | nil => rfl
  | cons _ _ => simp
theorem op_eqT0 (hu : X.A.units + 64 < cLine) : OpR X (compareOp .Eq) (rT0 false X.K) := by
  intro pins s σ H x y v u Q I rx ry h
  obtain ⟨a, b, xs, ys, rfl, rfl, ha, hb, rfl, q⟩ := h
  cases rx
  cases ry
  obtain ⟨its, r1, p1, _⟩ := I.tuple ha
  obtain ⟨its2, r2, p2, _⟩ := I.tuple hb
  refine SeqAt.RcAt.tuples (e := fun _ => true) p1 p2 (by omega) (fun j h1 h2 => ?_) _ _ _ _ ⟨.bl xs.isEmpty, H, I, ?_, q⟩
  · cases r2
    exact absurd h2 (by simp)
  · show Value.bool _ = Value.bool _
    rw [t0_val r1 r2]
theorem op_neT0 (hu : X.A.units + 64 < cLine) : OpR X (compareOp .NotEq) (rT0 true X.K) := by
  intro pins s σ H x y v u Q I rx ry h
  obtain ⟨a, b, xs, ys, rfl, rfl, ha, hb, rfl, q⟩ := h
  cases rx
  cases ry
  obtain ⟨its, r1, p1, _⟩ := I.tuple ha
  obtain ⟨its2, r2, p2, _⟩ := I.tuple hb
  refine SeqAt.RcNeAt.tuples (e := fun _ => true) p1 p2 (by omega) (fun j h1 h2 => ?_) _ _ _ _ ⟨.bl (!xs.isEmpty), H, I, ?_, q⟩
  · cases r2
    exact absurd h2 (by simp)
  · show Value.bool _ = Value.bool _
    rw [t0_val r1 r2]

/-! ### t[::-1] -/
theorem applied_rev {prog : Program} {w : World} {A : Around} {E : Value → Shared → Prop} {s : Shared} {sl : Addr} {vl vu vs : Value} {n : Nat} {Q : Int × Int × Nat → Shared → Prop}
    (hs : s.heap.IsSliceOf sl vl vu vs) (pl : IsPart vl none) (pu : IsPart vu none) (pt : IsPart vs (some (-1))) (h : Q ((n : Int) - 1, -1, n) s) :
    wpAny (model prog w) A (Builtin.Slice.sliceApplied (.ref sl) (pure (n : Int))) Q E s := by
  obtain ⟨ob, e1, e2, e3⟩ := id hs
  unfold Builtin.Slice.sliceApplied Builtin.Slice.sliceFields
  refine wpAny_bind (wpAny_bind (wpAny_field e1 e3 (x := vl) rfl ?_))
  refine wpAny_bind (wpAny_field e1 e3 (x := vu) rfl ?_)
  refine wpAny_bind (wpAny_field e1 e3 (x := vs) rfl (wpAny_pure ?_))
  refine wpAny_bind (HT.slicePart_ pt ?_)
  show wpAny _ _ (if ((-1 : Int) == 0) = true then _ else _) _ _ s
  rw [if_neg (by decide)]
  refine wpAny_bind (HT.slicePart_ pl ?_)
  refine wpAny_bind (HT.slicePart_ pu (wpAny_bind (wpAny_pure (wpAny_pure ?_))))
  have ep : Builtin.Slice.slicePlaces ((n : Int) - 1) (-1) (-1) = n := by
    unfold Builtin.Slice.slicePlaces
    have c1 : ¬ ((-1 : Int) > 0) := by decide
    simp only [c1, if_false]
    by_cases c : (n : Int) - 1 > -1
    · simp only [c, if_true]
      have : ((n : Int) - 1 - -1 - 1) / (- -1) = (n : Int) - 1 := by
        rw [show (- -1 : Int) = 1 by decide, Int.ediv_one]; omega
      omega
    · simp only [c, if_false]
      omega
  show Q (_, (-1 : Int), Builtin.Slice.slicePlaces ((n : Int) - 1) (-1) (-1)) s
  rw [ep]
  exact h
theorem fm_congr {α β : Type} {f g : α → Option β} : ∀ (l : List α), (∀ k ∈ l, f k = g k) → l.filterMap f = l.filterMap g
  | [], _ => rfl
  | k :: l, h => by
    rw [List.filterMap_cons, List.filterMap_cons, h k (by simp), fm_congr l fun j hj => h j (by simp [hj])]
theorem pick_rev (xs : Array Value) : ((List.range xs.size).filterMap fun (k : Nat) => xs[(((xs.size : Int) - 1) + (k : Int) * (-1)).toNat]?).toArray = xs.toList.reverse.toArray := by
  congr 1
  have e : (List.range xs.size).filterMap (fun (k : Nat) => xs[(((xs.size : Int) - 1) + (k : Int) * (-1)).toNat]?) = ((List.range xs.size).map fun k => xs.size - 1 - k).filterMap (xs[·]?) := by
    rw [List.filterMap_map]
    refine fm_congr _ fun k hk => ?_
    have hlt := List.mem_range.mp hk
    have e : (((xs.size : Int) - 1) + (k : Int) * (-1)).toNat = xs.size - 1 - k := by omega
    show xs[(((xs.size : Int) - 1) + (k : Int) * (-1)).toNat]? = xs[xs.size - 1 - k]?
    rw [e]
  rw [e, PySem.W.krv_range, List.filterMap_reverse, PySem.W.krv_all]
theorem getItem_rev {prog : Program} {w : World} {A : Around} {E : Value → Shared → Prop} {s : Shared} {t sl : Addr} {items : Array Value} {vl vu vs : Value} {Q : Value → Shared → Prop}
    (ht : IsTup s.heap t items) (hs : s.heap.IsSliceOf sl vl vu vs) (pl : IsPart vl none) (pu : IsPart vu none) (pt : IsPart vs (some (-1))) (hz : items.size ≤ sizeLine)
    (h : Q (.ref s.heap.objs.size) { s with heap := s.heap.push { cls := .type "tuple", data := .seq items.toList.reverse.toArray } }) :
    wpAny (model prog w) A (getItem (.ref t) (.ref sl)) Q E s := by
  have ty : s.TypeIs (.ref sl) "slice" := by obtain ⟨ob, e1, e2, e3⟩ := id hs; exact ⟨ob, e1, e2⟩
  have ok : sizeOk (.seq items.toList.reverse.toArray) := by
    show items.toList.reverse.toArray.size ≤ sizeLine
    simpa using hz
  unfold getItem
  (try with_reducible refine wpAny_holding ?_); (first | refine wpAny_bind (wpAny_pure ?_) | skip)
  refine wpAny_bind (wpAny_sequenceKey ht.typeIs (by decide) ?_)
  have sg := PyProof.Rows.slot_tuple_getitem
  refine wpAny_bind (wpAny_callSpecial?_slot (name := Str.ofString "__getitem__") ht.typeIs sg ?_)
  refine wpAny_call_entry sg ht.typeIs entry_tuple_getitem ?_ (args_tuple_getitem _ _)
  refine (show wpAny _ _ (Builtin.Tuple.tupleItemsOf (.ref t) >>= _) _ _ s from ?_)
  refine wpAny_bind (tupleItemsOf_ ht (wpAny_bind (wpAny_typeOf ty ?_)))
  rw [if_pos (by decide)]
  refine wpAny_bind (applied_rev hs pl pu pt ?_)
  have no : ¬ (((items.size : Int) - 1 == 0 && (-1 : Int) == 1 && items.size == items.size) = true) := by simp
  show wpAny _ _ (if ((items.size : Int) - 1 == 0 && (-1 : Int) == 1 && items.size == items.size) = true then _ else _) _ _ s
  rw [if_neg no, pick_rev]
  first
    | exact wpAny_bind (wpAny_bind (m := Builtin.Tuple.tupleExact _) (wpAny_newObj_type (wpAny_pure ⟨_, rfl, wpAny_pure h⟩) ok))
    | exact wpAny_bind (m := Builtin.Tuple.tupleExact _) (wpAny_newObj_type (wpAny_pure ⟨_, rfl, wpAny_pure h⟩) ok)
    | exact wpAny_bind (m := Builtin.Tuple.tupleExact _) (wpAny_newObj_type (wpAny_bind (wpAny_pure (wpAny_pure ⟨_, rfl, wpAny_pure h⟩))) ok)
    | exact wpAny_bind (wpAny_bind (m := Builtin.Tuple.tupleExact _) (wpAny_newObj_type (wpAny_pure (wpAny_pure ⟨_, rfl, wpAny_pure h⟩)) ok))
def tRevT (K : PySem.W.Frag) (te : TE) : TE := fun σ H Q => te σ H fun x H1 => ∃ a xs, x = .ref a ∧ SqT K H1 a xs ∧ ∀ p, H1 p = none → Q (.ref p) (upd H1 p (.tup xs.reverse))
theorem pe_revT {e : Expr} {te : TE} {k : Nat} {p1 p2 p3 pos : Pos} (he : PE X e te) :
    PE X (.Subscript e (.Slice none none (some (.UnaryOp .USub (.Constant (.int 1) k p1) p2)) p3) pos) (tRevT X.K te) := by
  refine ⟨fun pins s σ H Q I h => Subscript_ (thn (he.run pins s σ H _ I h) ?_)⟩
  rintro v s1 ⟨x, H1, I1, r1, a, xs, ex, hx, q⟩
  subst ex
  cases r1
  have step : PO X (some (.UnaryOp .USub (.Constant (.int 1) k p1) p2)) (tPart (tUn (rU fun i => .int (-i)) (tC (.int 1)))) := po_some (pe_un un_neg pe_int)
  refine wpAny_Slice (thn (po_none.run pins s1 σ H1 (fun o G => o = none ∧ G = H1) I1 ⟨rfl, rfl⟩) ?_)
  rintro vl s2 ⟨l, G2, I2, pl, rfl, rfl⟩
  refine thn (po_none.run pins s2 σ G2 (fun o G => o = none ∧ G = G2) I2 ⟨rfl, rfl⟩) ?_
  rintro vu s3 ⟨l3, G3, I3, pu, rfl, rfl⟩
  refine thn (step.run pins s3 σ G3 (fun o G => o = some (-1) ∧ G = G3) I3 ⟨1, rfl, -1, rfl, rfl, rfl⟩) ?_
  rintro vs s4 ⟨l4, G4, I4, pt, rfl, rfl⟩
  have I5 := I4.kept (h' := s4.heap.push { cls := .type "slice", data := .fields #[vl, vu, vs] }) (t' := s4.toks) fun b ob z => Heap.get?_push_of_some _ z
  obtain ⟨its, r, ht, hz⟩ := I5.tuple hx
  have hl := r.length
  refine tail_any (ops := [.ref a, .ref s4.heap.objs.size]) ht.typeIs PyProof.Rows.slot_tuple_getitem.lookup ?_ (by with_unfolding_all rfl)
  refine getItem_rev ht (Heap.IsSliceOf.new _ vl vu vs) pl pu pt (by rw [List.size_toArray]; omega) ?_
  have J := I5.laid (t' := s4.toks) (o := .tup xs.reverse) (fun b ob z => Heap.get?_push_of_some _ z) (Nat.le_refl _)
    ⟨by rw [List.length_reverse]; exact hz, its.reverse, Vals.reverse r, IsTup.new _ _⟩
  exact ⟨.ref _, _, J, rfl, q _ (I5.hok.fresh (Nat.le_refl _))⟩
end

/-! ### kinds -/
def kindOf : PyData → String
  | .none => "NoneType"
  | .bool _ => "bool"
  | .int _ => "int"
  | .str _ => "str"
  | .list _ => "list"
  | .tuple _ => "tuple"
  | .dict _ => "dict"
theorem Da.ty {a : Addr} {H : Hp} {K : PySem.W.Frag} : ∀ {v : V} {d : PyData}, Da a H v d → TyX K H v (.type (kindOf d))
  | _, _, .non => .base .non
  | _, _, .bl b => .base (.bl b)
  | _, _, .int i => .base (.int i)
  | _, _, .str x => .base (.str x)
  | _, _, .lst _ h _ => .base (.lst h)
  | _, _, .tup _ h _ => .base (.tup h)
  | _, _, .dct _ h => .base (.dK h)
end Tw

set_option Elab.async false
set_option linter.all false
set_option maxRecDepth 100000
set_option maxHeartbeats 4000000
/-! defs of the text, and calls of them by name -/
namespace Tw
open PySem PySem.Spec PyProof.Rows L2

/-- the def st stands at the name x -/
def Def (K : PySem.W.Frag) (mg : Str → Option Value) (x : Str) (st : Stmt) (ps : List Str) : Prop :=
  ∃ f fd, Fun K x x st f fd ∧ mg x = some (.ref f) ∧ Binds K fd ps []
/-- f is a def, fd -/
def FdAt (K : PySem.W.Frag) (f : Addr) (fd : FuncData) : Prop := ∃ oc od osl, K.lookup f = some ⟨oc, od, .func fd, osl⟩
theorem fdAt {K : PySem.W.Frag} {x q : Str} {st : Stmt} {f : Addr} {fd : FuncData} (F : Fun K x q st f fd) : FdAt K f fd := by
  obtain ⟨oc, od, _, _, _, _, _, _, osl, _, lk, _⟩ := F.ex
  exact ⟨oc, od, osl, lk⟩
/-- what stands at the name x keeps the promise -/
def Cal (P : Program) (w : World) (K : PySem.W.Frag) (mg : Str → Option Value) (base : Heap) (x : Str) (k : Nat) (ps : List Str) (sp : Sp) : Prop :=
  ∃ f fd, FnOk P w K mg base CX0 k f fd ps sp ∧ mg x = some (.ref f) ∧ PySem.W.keepIn K (.ref f) = true ∧ Binds K fd ps [] ∧ FdAt K f fd
def CalG (P : Program) (w : World) (K : PySem.W.Frag) (mg : Str → Option Value) (base : Heap) (x : Str) (k : Nat) (ps : List Str) (sp : Sp) : Prop :=
  ∃ f fd, FnG P w K mg base k f fd ps sp ∧ mg x = some (.ref f) ∧ PySem.W.keepIn K (.ref f) = true ∧ Binds K fd ps [] ∧ FdAt K f fd
section
variable {P : Program} {w : World} {K : PySem.W.Frag} {mg : Str → Option Value} {base : Heap} {x : Str} {st : Stmt} {ps N : List Str} {k : Nat} {sp : Sp}
theorem Def.ok (D : Def K mg x st ps) (S : FnScope N ps (defScope st)) (many : ∀ vs H Q E, sp vs H Q E → vs.length = ps.length)
    (hbody : ∀ (f : Addr) (cdv : Value) (A : Around) (out : List Env) (s : Shared) (H : Hp) (vs : List V) (Q : VK) (E : XK),
      Room k (A.deeper (envOfC x (defScope st) s.heap.objs.size f cdv)) → sp vs H Q E →
      ∃ t, PSs (cxOf CX0 P w K mg base N x (defScope st) f cdv A out s H E).nox (defBody st) t ∧
        t { nx := fun _ H' => Q .non H', rt := Q } (start N vs) H) : Cal P w K mg base x (k + 1) ps sp := by
  obtain ⟨f, fd, F, m, b⟩ := D
  exact ⟨f, fd, F.ok S many (fun cdv A out s H vs Q E hr hs => hbody f cdv A out s H vs Q E hr hs), m, F.kp, b, fdAt F⟩
theorem Def.okG (D : Def K mg x st ps) (S : FnScope N ps (defScope st)) (many : ∀ vs H Q E, sp vs H Q E → vs.length = ps.length)
    (hbody : ∀ (f : Addr) (cdv : Value) (A : Around) (out : List Env) (s : Shared) (H : Hp) (vs : List V) (Q : VK) (E : XK),
      Qt (A.deeper (envOfC x (defScope st) s.heap.objs.size f cdv)) →
      Room k (A.deeper (envOfC x (defScope st) s.heap.objs.size f cdv)) → sp vs H Q E →
      ∃ t, PSs (cxOf CX0 P w K mg base N x (defScope st) f cdv A out s H E).nox (defBody st) t ∧
        t { nx := fun _ H' => Q .non H', rt := Q } (start N vs) H) : CalG P w K mg base x (k + 1) ps sp := by
  obtain ⟨f, fd, F, m, b⟩ := D
  exact ⟨f, fd, Fun.okG F S many (fun cdv A out s H vs Q E hq hr hs => hbody f cdv A out s H vs Q E hq hr hs), m, F.kp, b, fdAt F⟩
theorem Cal.imp {sp' : Sp} (C : Cal P w K mg base x k ps sp) (h : ∀ vs H Q E, sp' vs H Q E → sp vs H Q E) : Cal P w K mg base x k ps sp' := by
  obtain ⟨f, fd, F, r⟩ := C
  exact ⟨f, fd, F.imp h, r⟩
theorem Cal.up {j : Nat} (C : Cal P w K mg base x j ps sp) (h : j ≤ k) : Cal P w K mg base x k ps sp := by
  obtain ⟨f, fd, F, r⟩ := C
  exact ⟨f, fd, F.mono h, r⟩
theorem def_mk {h : Heap} {f : Addr} {oc kV dc pm cd ct : Value} {od an : Option Addr} {sl : Array (Option Value)} (X : K.In h) (G : h.Ns mainGlobals mg)
    (a : PySem.W.nsIn K mainGlobals x = some (some (.ref f)))
    (l : K.lookup f = some ⟨oc, od, .func (PySem.W.fnOf x x (defArgs st) (defBody st) (defScope st) .none kV dc pm an cd ct), sl⟩)
    (c : PySem.W.codeIn K cd x = true) (kp : PySem.W.keepIn K (.ref f) = true)
    (hb : ∀ (kV doc pm : Value) (an : Option Addr) (cdv ct : Value) (us : List Value), us.length = ps.length →
      bindArgs (PySem.W.fnOf x x (defArgs st) (defBody st) (defScope st) .none kV doc pm an cdv ct) ⟨us, []⟩ = pure (ps.zip us)) : Def K mg x st ps := by
  have F := fun_mk (st := st) l c kp
  exact ⟨f, _, F, PySem.W.mg_of X G a, F.binds hb⟩
end
section
variable {X : Cx} {k j : Nat} {ps : List Str} {sp : Sp} {x : Str} {p pos : Pos} {e : Expr} {es : List Expr} {t : TA}
/-- f(e, ..) -/
theorem pe_cal (C : Cal X.prog X.w X.K X.mg X.base x j ps sp) (hr : Room k X.A) (hj : j ≤ k) (hg : Gl X x) (ha : PA X (e :: es) t) (hdb : (x == ("__debug__" : Str)) = false := by decide)
    (he : starEach (e :: es) X.env = (false, eval e X.env) :: starEach es X.env := by rfl) (hpl : (backTo pos (starEach es X.env)).any (·.1) = false := by rfl) :
    PE X (.Call (.Name x p) (e :: es) [] pos) (tCall sp [] E0 t) := by
  obtain ⟨f, fd, F, m, kp, b, _⟩ := C
  exact pe_call F (hr.mono hj) hg m kp b .nil pass0 ha hdb he hpl
theorem pe_calG (C : CalG X.prog X.w X.K X.mg X.base x j ps sp) (hq : Qt X.A) (hr : Room k X.A) (hj : j ≤ k) (hg : Gl X x) (ha : PA X (e :: es) t) (hdb : (x == ("__debug__" : Str)) = false := by decide)
    (he : starEach (e :: es) X.env = (false, eval e X.env) :: starEach es X.env := by rfl) (hpl : (backTo pos (starEach es X.env)).any (·.1) = false := by rfl) :
    PE X (.Call (.Name x p) (e :: es) [] pos) (tCall sp [] E0 t) := by
  obtain ⟨f, fd, F, m, kp, b, _⟩ := C
  exact pe_callG F hq (hr.mono hj) hg m kp b ha hdb he hpl

/-- f(k = e, ..), nothing by position: ks the names as they are written, g puts the values in the parameters' order -/
theorem pe_calK {st : Stmt} {ks : List Str} {kws : List Keyword} (g : List Value → List Value) (gV : List V → List V) (C : Cal X.prog X.w X.K X.mg X.base x j ps sp) (D : Def X.K X.mg x st ps) (hr : Room k X.A) (hj : j ≤ k) (hg : Gl X x)
    (hb : ∀ (kV doc pm : Value) (an : Option Addr) (cdv ct : Value) (us : List Value), us.length = ks.length →
      bindArgs (PySem.W.fnOf x x (defArgs st) (defBody st) (defScope st) .none kV doc pm an cdv ct) ⟨[], ks.zip us⟩ = pure (ps.zip (g us)))
    (hrel : ∀ {zs : List V} {us : List Value}, Vals zs us → us.length = ks.length → Vals (gV zs) (g us)) (ha : PK X kws t)
    (hn : ∀ zs H Q, t zs H Q → t zs H fun vs H' => vs.length = ks.length ∧ Q vs H')
    (hall : (backToKw pos (keywordEach kws X.env)).all (·.1.isSome) = true := by rfl) (hks : (backToKw pos (keywordEach kws X.env)).filterMap (·.1) = ks := by rfl)
    (hdb : (x == ("__debug__" : Str)) = false := by decide)
    (hpl : ((backTo pos (starEach [] X.env)).any (·.1) || (backToKw pos (keywordEach kws X.env)).any (·.1.isNone)) = false := by rfl) :
    PE X (.Call (.Name x p) [] kws pos) (fun σ H Q => t σ H fun zs H1 => sp (gV zs) H1 Q E0) := by
  obtain ⟨f, fd, F, m, kp, b, oc, od, osl, lk⟩ := C
  obtain ⟨f', fd', F', m', _⟩ := D
  have e1 : f' = f := by rw [m] at m'; injection m' with z; injection z with z; exact z.symm
  subst e1
  obtain ⟨oc', od', kV, doc, pm, an, cdv, ct, osl', e2, lk', _⟩ := F'.ex
  rw [lk] at lk'
  injection lk' with lk'
  injection lk' with _ _ e3 _
  injection e3 with e3
  subst e3
  refine ⟨fun pins s σ H Q I h => wpAny_Call_Name_kw (ld_glob I hg m ?_ hdb)⟩
  refine PySem.W.callWith_KW0 (h₀ := X.base) I.ok.mod.kin kp hall ?_ hpl
  refine thn (ha.run pos pins s σ H _ I (hn σ H _ h)) ?_
  rintro ws s2 ⟨zs, H2, I2, rz, hl, q2⟩
  rw [hks]
  refine ⟨I2.kIn, wpAny_call ?_⟩
  have hw : ws.length = ks.length := by rw [← Vals.length rz]; exact hl
  have bt : BindsTo s2 fd ⟨[], ks.zip ws⟩ (ps.zip (g ws)) := by
    rw [e2]
    exact .of_eq (hb kV doc pm an cdv ct ws hw)
  refine codeAny_mono (F.run X.A X.stack s2 H2 ⟨[], ks.zip ws⟩ (g ws) (gV zs) Q E0 (hr.mono hj) I2.env0 bt (hrel rz hw) q2) fun r s' hh => ?_
  cases r with
  | error z => exact False.elim hh
  | ok fl =>
    cases fl with
    | ret u => exact I2.after hh
    | next => exact False.elim hh
    | brk => exact False.elim hh
    | cont => exact False.elim hh
end

section
variable {P : Program} {w : World} {K : PySem.W.Frag} {mg : Str → Option Value} {st : Stmt} {x y : Str} {k : Nat} {sp : Sp} {fa : Addr}
theorem end_law (D : Def K mg x st [y]) (hfa : mg x = some (.ref fa)) (F : ∀ base : Heap, CalG P w K mg base x k [y] sp)
    (hb : ∀ (kV doc pm : Value) (an : Option Addr) (cdv ct u : Value), bindArgs (PySem.W.fnOf x x (defArgs st) (defBody st) (defScope st) .none kV doc pm an cdv ct) ⟨[u], []⟩ = pure [(y, u)]) :
    ∃ fd : FuncData, (∀ (s : Shared) (u : Value), BindsTo s fd ⟨[u], []⟩ [(y, u)]) ∧ ∀ base : Heap, K.In base → base.Ns mainGlobals mg → FnG P w K mg base k fa fd [y] sp := by
  obtain ⟨f, fd, F', m, _⟩ := D
  have e1 : f = fa := by rw [hfa] at m; injection m with z; injection z with z; exact z.symm
  subst e1
  obtain ⟨oc, od, kV, doc, pm, an, cdv, ct, osl, e2, lk, _⟩ := F'.ex
  refine ⟨fd, fun s u => by rw [e2]; exact .of_eq (hb kV doc pm an cdv ct u), fun base _ _ => ?_⟩
  obtain ⟨f2, fd2, G, m2, _, _, oc2, od2, osl2, lk2⟩ := F base
  have e3 : f2 = f := by rw [hfa] at m2; injection m2 with z; injection z with z; exact z.symm
  subst e3
  rw [lk] at lk2
  injection lk2 with lk2
  injection lk2 with _ _ e4 _
  injection e4 with e4
  rw [e4]
  exact G
end

theorem with_def {R : Prop} {K : PySem.W.Frag} {mg : Str → Option Value} {x : Str} {st : Stmt} {ps : List Str} {h : Heap} {f : Addr} {oc kV dc pm cd ct : Value} {od an : Option Addr} {sl : Array (Option Value)} (X : K.In h) (G : h.Ns mainGlobals mg)
    (a : PySem.W.nsIn K mainGlobals x = some (some (.ref f)))
    (l : K.lookup f = some ⟨oc, od, .func (PySem.W.fnOf x x (defArgs st) (defBody st) (defScope st) .none kV dc pm an cd ct), sl⟩)
    (c : PySem.W.codeIn K cd x = true) (kp : PySem.W.keepIn K (.ref f) = true)
    (hb : ∀ (kV doc pm : Value) (an : Option Addr) (cdv ct : Value) (us : List Value), us.length = ps.length →
      bindArgs (PySem.W.fnOf x x (defArgs st) (defBody st) (defScope st) .none kV doc pm an cdv ct) ⟨us, []⟩ = pure (ps.zip us))
    (go : Def K mg x st ps → R) : R := go (def_mk X G a l c kp hb)
theorem with_no {R : Prop} {K : PySem.W.Frag} {mg : Str → Option Value} {x : Str} {h : Heap} (X : K.In h) (G : h.Ns mainGlobals mg) (z : PySem.W.nsIn K mainGlobals x = some none) (go : mg x = none → R) : R := go (PySem.W.mg_none_of X G z)
end Tw

set_option Elab.async false
set_option linter.all false
set_option maxRecDepth 100000
set_option maxHeartbeats 4000000
/-! comprehensions over data, small facts -/
namespace Tw
open PySem PySem.Spec PyProof.Rows L2
theorem same_upd {H H' : Hp} {D : Addr} {o : HO} (s : Same H H') (n : H D = none) : Same H (upd H' D o) := fun b u e => by
  rw [upd_ne (ne_of_none e n)]; exact s b u e
theorem kp_upd {a : Addr} {H H' : Hp} {D : Addr} {o : HO} (s : Kp a H H') (n : H D = none) : Kp a H (upd H' D o) := fun b u ne e => by
  rw [upd_ne (ne_of_none e n)]; exact s b u ne e
theorem lt_line {n : Nat} (h : n < 100000) : n < sizeLine := Nat.lt_of_lt_of_le h (by decide)
theorem take_map {α β : Type} (f : α → β) {ds : List α} {i : Nat} {d : α} (h : ds[i]? = some d) : (ds.take i).map f ++ [f d] = (ds.take (i + 1)).map f := by
  rw [List.take_add_one, h, List.map_append]; rfl
section
variable {K : PySem.W.Frag} {te : TE} {i j : Nat} {elt : TE} {vs : List Nat} {σ : L2.St} {H : Hp} {Q : VK} {a p : Addr} {xs : List V} {ds : List PyData}
/-- [f(d) for d in t], t a tuple of data -/
theorem lc_mapT (f : PyData → V) (hv : σ[i]? = some (some (.ref p))) (ht : H p = some (.tup xs)) (hd : DaAll a H xs ds) (hn : xs.length < 100000)
    (hw : ∀ x, wipe ((wipe σ vs).set j (some x)) vs = wipe σ vs)
    (he : ∀ x d H1, d ∈ ds → Same H H1 → Da a H1 x d → ∀ R : VK, (∀ H2, Same H1 H2 → R (f d) H2) → elt ((wipe σ vs).set j (some x)) H1 R)
    (q : ∀ D H', Same H H' → H D = none → H' D = some (.lst (ds.map f)) → Q (.ref D) H') : tLc (iTup K (tVar i)) (gName j) tYes elt vs σ H Q := by
  refine ⟨.ref p, hv, p, rfl, ⟨xs, SqT.of ht⟩, fun D hD => ?_⟩
  refine lc_tup (xs := xs) (fun m H' => Same H H' ∧ H' D = some (.lst ((ds.take m).map f))) ⟨same_new hD, upd_same⟩ (fun m H' _ h => SqT.of (h.1 _ _ ht)) (fun m x H1 hx h => ?_) (fun H' h => ?_)
  · obtain ⟨h1, h2⟩ := h
    obtain ⟨d, e1, e2⟩ := hd.get hx
    have hm : m < xs.length := (List.getElem?_eq_some_iff.mp hx).1
    refine ⟨hw x, ?_⟩
    unfold tYes
    simp only [if_true]
    refine he x d H1 (List.mem_of_getElem? e1) h1 (e2.same h1) _ fun H2 s2 => ⟨(ds.take m).map f, s2 _ _ h2, ?_, same_upd (h1.trans s2) hD, ?_⟩
    · rw [List.length_map, List.length_take]; exact lt_line (by omega)
    · rw [upd_same, take_map f e1]
  · obtain ⟨h1, h2⟩ := h
    rw [hd.len, List.take_length] at h2
    exact q D H' h1 hD h2
theorem lc_mapL (f : PyData → V) (hv : σ[i]? = some (some (.ref p))) (ht : H p = some (.lst xs)) (hd : DaAll a H xs ds) (hn : xs.length < 100000)
    (hw : ∀ x, wipe ((wipe σ vs).set j (some x)) vs = wipe σ vs)
    (he : ∀ x d H1, d ∈ ds → Same H H1 → Da a H1 x d → ∀ R : VK, (∀ H2, Same H1 H2 → R (f d) H2) → elt ((wipe σ vs).set j (some x)) H1 R)
    (q : ∀ D H', Same H H' → H D = none → H' D = some (.lst (ds.map f)) → Q (.ref D) H') : tLc (iList K (tVar i)) (gName j) tYes elt vs σ H Q := by
  refine ⟨.ref p, hv, p, rfl, ⟨xs, SqL.of ht⟩, fun D hD => ?_⟩
  refine lc_list (xs := xs) (fun m H' => Same H H' ∧ H' D = some (.lst ((ds.take m).map f))) ⟨same_new hD, upd_same⟩ (fun m H' _ h => SqL.of (h.1 _ _ ht)) (fun m x H1 hx h => ?_) (fun H' h => ?_)
  · obtain ⟨h1, h2⟩ := h
    obtain ⟨d, e1, e2⟩ := hd.get hx
    have hm : m < xs.length := (List.getElem?_eq_some_iff.mp hx).1
    refine ⟨hw x, ?_⟩
    unfold tYes
    simp only [if_true]
    refine he x d H1 (List.mem_of_getElem? e1) h1 (e2.same h1) _ fun H2 s2 => ⟨(ds.take m).map f, s2 _ _ h2, ?_, same_upd (h1.trans s2) hD, ?_⟩
    · rw [List.length_map, List.length_take]; exact lt_line (by omega)
    · rw [upd_same, take_map f e1]
  · obtain ⟨h1, h2⟩ := h
    rw [hd.len, List.take_length] at h2
    exact q D H' h1 hD h2
end

/-! ### kinds, tests of kinds -/
def isIntD : PyData → Bool
  | .int _ => true
  | .bool _ => true
  | _ => false
def isBoolD : PyData → Bool
  | .bool _ => true
  | _ => false
def isTupD : PyData → Bool
  | .tuple _ => true
  | _ => false
theorem isi_int {K : PySem.W.Frag} (d : PyData) : PySem.W.kitOne K (.type (kindOf d)) (.type "int") = some (isIntD d) := by
  cases d with
  | none => exact kit_ty (show kitB "NoneType" "int" = some false by decide +kernel)
  | bool _ => exact kit_ty (show kitB "bool" "int" = some true by decide +kernel)
  | int _ => exact kit_ty (show kitB "int" "int" = some true by decide +kernel)
  | str _ => exact kit_ty (show kitB "str" "int" = some false by decide +kernel)
  | list _ => exact kit_ty (show kitB "list" "int" = some false by decide +kernel)
  | tuple _ => exact kit_ty (show kitB "tuple" "int" = some false by decide +kernel)
  | dict _ => exact kit_ty (show kitB "dict" "int" = some false by decide +kernel)
theorem isi_bool {K : PySem.W.Frag} (d : PyData) : PySem.W.kitOne K (.type (kindOf d)) (.type "bool") = some (isBoolD d) := by
  cases d with
  | none => exact kit_ty (show kitB "NoneType" "bool" = some false by decide +kernel)
  | bool _ => exact kit_ty (show kitB "bool" "bool" = some true by decide +kernel)
  | int _ => exact kit_ty (show kitB "int" "bool" = some false by decide +kernel)
  | str _ => exact kit_ty (show kitB "str" "bool" = some false by decide +kernel)
  | list _ => exact kit_ty (show kitB "list" "bool" = some false by decide +kernel)
  | tuple _ => exact kit_ty (show kitB "tuple" "bool" = some false by decide +kernel)
  | dict _ => exact kit_ty (show kitB "dict" "bool" = some false by decide +kernel)
theorem isi_tup {K : PySem.W.Frag} (d : PyData) : PySem.W.kitOne K (.type (kindOf d)) (.type "tuple") = some (isTupD d) := by
  cases d with
  | none => exact kit_ty (show kitB "NoneType" "tuple" = some false by decide +kernel)
  | bool _ => exact kit_ty (show kitB "bool" "tuple" = some false by decide +kernel)
  | int _ => exact kit_ty (show kitB "int" "tuple" = some false by decide +kernel)
  | str _ => exact kit_ty (show kitB "str" "tuple" = some false by decide +kernel)
  | list _ => exact kit_ty (show kitB "list" "tuple" = some false by decide +kernel)
  | tuple _ => exact kit_ty (show kitB "tuple" "tuple" = some true by decide +kernel)
  | dict _ => exact kit_ty (show kitB "dict" "tuple" = some false by decide +kernel)
/-- isinstance(x, T) of a datum -/
theorem isi {K : PySem.W.Frag} {a : Addr} {H : Hp} {Q : VK} {v : V} {d : PyData} {T : String} {b : Bool} (h : Da a H v d) (k : PySem.W.kitOne K (.type (kindOf d)) (.type T) = some b) (q : Q (.bl b) H) :
    rIsi K [v, .ty T] H Q := ⟨v, .ty T, .type (kindOf d), .type T, b, rfl, .ty T, h.ty, k, q⟩

/-! ### how deep, how wide -/
mutual
def dep : PyData → Nat
  | .list ds => dep1 ds + 1
  | .tuple ds => dep1 ds + 1
  | _ => 0
def dep1 : List PyData → Nat
  | [] => 0
  | d :: ds => max (dep d) (dep1 ds)
end
mutual
def wid : PyData → Nat
  | .list ds => max ds.length (wid1 ds)
  | .tuple ds => max ds.length (wid1 ds)
  | _ => 0
def wid1 : List PyData → Nat
  | [] => 0
  | d :: ds => max (wid d) (wid1 ds)
end
theorem dep1_mem {d : PyData} : ∀ {ds : List PyData}, d ∈ ds → dep d ≤ dep1 ds
  | e :: ds, h => by
    rw [dep1]
    rcases List.mem_cons.mp h with rfl | h
    · exact Nat.le_max_left _ _
    · exact Nat.le_trans (dep1_mem h) (Nat.le_max_right _ _)
theorem wid1_mem {d : PyData} : ∀ {ds : List PyData}, d ∈ ds → wid d ≤ wid1 ds
  | e :: ds, h => by
    rw [wid1]
    rcases List.mem_cons.mp h with rfl | h
    · exact Nat.le_max_left _ _
    · exact Nat.le_trans (wid1_mem h) (Nat.le_max_right _ _)
theorem dep1_le {n : Nat} : ∀ {ds : List PyData}, (∀ d ∈ ds, dep d ≤ n) → dep1 ds ≤ n
  | [], _ => Nat.zero_le _
  | d :: ds, h => by
    rw [dep1]
    exact Nat.max_le.mpr ⟨h d (by simp), dep1_le fun e he => h e (by simp [he])⟩
theorem wid1_le {n : Nat} : ∀ {ds : List PyData}, (∀ d ∈ ds, wid d ≤ n) → wid1 ds ≤ n
  | [], _ => Nat.zero_le _
  | d :: ds, h => by
    rw [wid1]
    exact Nat.max_le.mpr ⟨h d (by simp), wid1_le fun e he => h e (by simp [he])⟩
/-- at most n deep, m wide -/
def Sm (n m : Nat) (d : PyData) : Prop := dep d ≤ n ∧ wid d ≤ m
theorem Sm.up {n m n' m' : Nat} {d : PyData} (h : Sm n m d) (h1 : n ≤ n') (h2 : m ≤ m') : Sm n' m' d := ⟨Nat.le_trans h.1 h1, Nat.le_trans h.2 h2⟩
theorem sm_tup {n m : Nat} {ds : List PyData} (hl : ds.length ≤ m) (h : ∀ d ∈ ds, Sm n m d) : Sm (n + 1) m (.tuple ds) :=
  ⟨by rw [dep]; exact Nat.succ_le_succ (dep1_le fun d hd => (h d hd).1), by rw [wid]; exact Nat.max_le.mpr ⟨hl, wid1_le fun d hd => (h d hd).2⟩⟩
theorem sm_lst {n m : Nat} {ds : List PyData} (hl : ds.length ≤ m) (h : ∀ d ∈ ds, Sm n m d) : Sm (n + 1) m (.list ds) :=
  ⟨by rw [dep]; exact Nat.succ_le_succ (dep1_le fun d hd => (h d hd).1), by rw [wid]; exact Nat.max_le.mpr ⟨hl, wid1_le fun d hd => (h d hd).2⟩⟩
theorem Sm.len {n m : Nat} {ds : List PyData} (h : Sm n m (.tuple ds)) : ds.length ≤ m := by
  have := h.2
  rw [wid] at this
  exact Nat.le_trans (Nat.le_max_left _ _) this
theorem Sm.dep1 {n m : Nat} {ds : List PyData} (h : Sm n m (.tuple ds)) : 1 ≤ n := by
  have := h.1
  rw [dep] at this
  omega
theorem Sm.mem {n m : Nat} {ds : List PyData} {d : PyData} (h : Sm n m (.tuple ds)) (hd : d ∈ ds) : Sm (n - 1) m d := by
  obtain ⟨h1, h2⟩ := h
  rw [dep] at h1
  rw [wid] at h2
  have := dep1_mem hd
  exact ⟨by omega, Nat.le_trans (wid1_mem hd) (Nat.le_trans (Nat.le_max_right _ _) h2)⟩
def smB (n m : Nat) (d : PyData) : Bool := decide (dep d ≤ n) && decide (wid d ≤ m)
theorem sm_of {n m : Nat} {d : PyData} (h : smB n m d = true) : Sm n m d := by
  unfold smB at h
  simpa [Sm] using h

/-- a loop over a range, its body already read -/
theorem for_rng {lo : Int} {n : Nat} {B : (L2.St → Hp → Prop) → V → L2.St → Hp → Prop} {nx : L2.St → Hp → Prop} {σ : L2.St} {H : Hp} (Pv : Nat → L2.St → Hp → Prop) (h0 : Pv 0 σ H)
    (hs : ∀ (i : Nat) σ' H', i < n → Pv i σ' H' → B (Pv (i + 1)) (.int (lo + i)) σ' H') (hd : ∀ σ' H', Pv n σ' H' → nx σ' H') :
    ∃ W : Nat → Nat → L2.St → Hp → Prop, (∃ m, W 0 m σ H) ∧ ∀ i m σ H, W i m σ H →
      ((Itr lo n).stop i H ∧ nx σ H) ∨ ((Itr lo n).go i H ∧ ∃ N : L2.St → Hp → Prop, (∀ σ' H', N σ' H' → ∃ m', m' < m ∧ W (i + 1) m' σ' H') ∧ ∀ x H', (Itr lo n).yld i H x H' → B N x σ H') := by
  refine ⟨fun i m σ H => m = n - i ∧ i ≤ n ∧ Pv i σ H, ⟨n, by simp, Nat.zero_le _, h0⟩, ?_⟩
  rintro i m σ' H' ⟨rfl, hi, p⟩
  by_cases c : i < n
  · refine Or.inr ⟨c, Pv (i + 1), fun σ2 H2 p2 => ⟨n - (i + 1), by omega, rfl, c, p2⟩, fun x H2 y => ?_⟩
    obtain ⟨e1, e2⟩ := y
    subst e1 e2
    exact hs i σ' _ c p
  · have e : i = n := by omega
    subst e
    exact Or.inl ⟨by show i ≤ i; omega, hd σ' H' p⟩

/-- a loop over a list, its body already read -/
theorem for_lst {K : PySem.W.Frag} {a : Addr} {xs : List V} {B : (L2.St → Hp → Prop) → V → L2.St → Hp → Prop} {nx : L2.St → Hp → Prop} {σ : L2.St} {H : Hp} (Pv : Nat → L2.St → Hp → Prop) (h0 : Pv 0 σ H)
    (hl : ∀ i σ' H', i ≤ xs.length → Pv i σ' H' → SqL K H' a xs)
    (hs : ∀ (i : Nat) x σ' H', xs[i]? = some x → Pv i σ' H' → B (Pv (i + 1)) x σ' H') (hd : ∀ σ' H', Pv xs.length σ' H' → nx σ' H') :
    ∃ W : Nat → Nat → L2.St → Hp → Prop, (∃ m, W 0 m σ H) ∧ ∀ i m σ H, W i m σ H →
      ((Itl K a).stop i H ∧ nx σ H) ∨ ((Itl K a).go i H ∧ ∃ N : L2.St → Hp → Prop, (∀ σ' H', N σ' H' → ∃ m', m' < m ∧ W (i + 1) m' σ' H') ∧ ∀ x H', (Itl K a).yld i H x H' → B N x σ H') := by
  refine ⟨fun i m σ H => m = xs.length - i ∧ i ≤ xs.length ∧ Pv i σ H, ⟨xs.length, by simp, Nat.zero_le _, h0⟩, ?_⟩
  rintro i m σ' H' ⟨rfl, hi, p⟩
  have ql := hl i σ' H' hi p
  by_cases c : i < xs.length
  · refine Or.inr ⟨⟨xs, xs[i], ql, by simp [c]⟩, Pv (i + 1), fun σ2 H2 p2 => ⟨xs.length - (i + 1), by omega, rfl, c, p2⟩, fun x H2 y => ?_⟩
    obtain ⟨e1, e2⟩ := y
    subst e1
    exact hs i x σ' _ (e2 xs ql) p
  · have e : i = xs.length := by omega
    subst e
    exact Or.inl ⟨⟨xs, ql, Nat.le_refl _⟩, hd σ' H' p⟩

theorem same_kp {a : Addr} {H H1 H2 : Hp} (s : Same H H1) (n : H a = none) (k : Kp a H1 H2) : Same H H2 := fun b o e => k b o (ne_of_none e n) (s b o e)
/-- [f(i) for i in range(n)] -/
theorem lc_rng {wi : TI} {j : Nat} {elt : TE} {vs : List Nat} {σ : L2.St} {H : Hp} {Q : VK} {n : Nat} (f : Nat → V) (hi : ∀ R : It → Hp → Prop, R (Itr 0 n) H → wi σ H R) (hn : n < 100000)
    (hw : ∀ x, wipe ((wipe σ vs).set j (some x)) vs = wipe σ vs)
    (he : ∀ (i : Nat) H1, i < n → Same H H1 → ∀ R : VK, (∀ H2, Same H1 H2 → R (f i) H2) → elt ((wipe σ vs).set j (some (.int (0 + (i : Int))))) H1 R)
    (q : ∀ D H', Same H H' → H D = none → H' D = some (.lst ((List.range n).map f)) → Q (.ref D) H') : tLc wi (gName j) tYes elt vs σ H Q := by
  refine hi _ fun D hD => ?_
  refine lc_range (lo := 0) (n := n) (fun m H' => Same H H' ∧ H' D = some (.lst ((List.range m).map f))) ⟨same_new hD, upd_same⟩ (fun m H1 hm h => ?_) (fun H' h => q D H' h.1 hD h.2)
  obtain ⟨h1, h2⟩ := h
  refine ⟨hw _, ?_⟩
  unfold tYes
  simp only [if_true]
  refine he m H1 hm h1 _ fun H2 s2 => ⟨(List.range m).map f, s2 _ _ h2, ?_, same_upd (h1.trans s2) hD, ?_⟩
  · rw [List.length_map, List.length_range]; exact lt_line (by omega)
  · rw [upd_same, List.range_succ, List.map_append]; rfl
end Tw

set_option Elab.async false
set_option linter.all false
set_option maxRecDepth 100000
set_option maxHeartbeats 4000000
/-! numbers that may be True or False -/
namespace Tw
open PySem PySem.Spec PyProof.Rows L2
/-- a number, True and False among them -/
inductive Nu : V → Int → Prop
  | int (i : Int) : Nu (.int i) i
  | bl (b : Bool) : Nu (.bl b) (if b = true then 1 else 0)
theorem nu_of {a : Addr} {H : Hp} {v : V} {d : PyData} (h : Da a H v d) (t : isIntD d = true) : ∃ i, Nu v i := by
  cases h with
  | int i => exact ⟨i, .int i⟩
  | bl b => exact ⟨_, .bl b⟩
  | _ => cases t
def rNl (f : Int → Int → Int) : R2 := fun x y H Q => ∃ i j, Nu x i ∧ y = .int j ∧ Q (.int (f i j)) H
def rNr (f : Int → Int → Int) : R2 := fun x y H Q => ∃ i j, x = .int i ∧ Nu y j ∧ Q (.int (f i j)) H
section
variable {X : Cx}
theorem op_addNl : OpR X (binaryOp .Add) (rNl fun i j => i + j) := by
  intro pins s σ H x y v u Q I rx ry h
  obtain ⟨i, j, nx, rfl, q⟩ := h
  obtain ⟨t, rfl⟩ := ry
  cases nx with
  | int _ => obtain ⟨t', rfl⟩ := rx; exact add_int ⟨.int _, H, I.tok _, ⟨_, rfl⟩, q⟩
  | bl b => cases rx; exact IntBool.add_bool_int ⟨.int _, H, I.tok _, ⟨_, rfl⟩, q⟩
theorem op_subNl : OpR X (binaryOp .Sub) (rNl fun i j => i - j) := by
  intro pins s σ H x y v u Q I rx ry h
  obtain ⟨i, j, nx, rfl, q⟩ := h
  obtain ⟨t, rfl⟩ := ry
  cases nx with
  | int _ => obtain ⟨t', rfl⟩ := rx; exact sub_int ⟨.int _, H, I.tok _, ⟨_, rfl⟩, q⟩
  | bl b => cases rx; exact IntBool.sub_bool_int ⟨.int _, H, I.tok _, ⟨_, rfl⟩, q⟩
theorem op_subNr : OpR X (binaryOp .Sub) (rNr fun i j => i - j) := by
  intro pins s σ H x y v u Q I rx ry h
  obtain ⟨i, j, rfl, ny, q⟩ := h
  obtain ⟨t, rfl⟩ := rx
  cases ny with
  | int _ => obtain ⟨t', rfl⟩ := ry; exact sub_int ⟨.int _, H, I.tok _, ⟨_, rfl⟩, q⟩
  | bl b => cases ry; exact IntBool.sub_int_bool ⟨.int _, H, I.tok _, ⟨_, rfl⟩, q⟩
/-- a small number times such a one -/
theorem op_mulNr : OpR X (binaryOp .Mult) (fun x y H Q => ∃ i j, x = .int i ∧ (-(2 ^ 64) < i ∧ i < 2 ^ 64) ∧ Nu y j ∧ Q (.int (i * j)) H) := by
  intro pins s σ H x y v u Q I rx ry h
  obtain ⟨i, j, rfl, ⟨b1, b2⟩, ny, q⟩ := h
  obtain ⟨t, rfl⟩ := rx
  cases ny with
  | int _ => obtain ⟨t', rfl⟩ := ry; exact mul_int ⟨.int _, H, I.tok _, ⟨_, rfl⟩, q⟩ (.of_left (intBits_le_64 b1 b2))
  | bl b => cases ry; exact IntBool.mul_int_bool ⟨.int _, H, I.tok _, ⟨_, rfl⟩, q⟩
/-- == of such a number and an int -/
theorem op_eqNl : OpR X (compareOp .Eq) (fun x y H Q => ∃ i j, Nu x i ∧ y = .int j ∧ Q (.bl (i == j)) H) := by
  intro pins s σ H x y v u Q I rx ry h
  obtain ⟨i, j, nx, rfl, q⟩ := h
  obtain ⟨t, rfl⟩ := ry
  cases nx with
  | int _ => obtain ⟨t', rfl⟩ := rx; exact eq_int ⟨.bl _, H, I, rfl, q⟩
  | bl b => cases rx; exact EqBoolInt.eq_bool_int ⟨.bl _, H, I, rfl, q⟩
end
end Tw

set_option Elab.async false
set_option linter.all false
set_option maxRecDepth 100000
set_option maxHeartbeats 4000000
/-! slices, sums, turned tuples of data -/
namespace Tw
open PySem PySem.Spec PyProof.Rows L2
section
variable {K : PySem.W.Frag} {a : Addr} {H : Hp} {v u : V} {ds es : List PyData} {Q : VK}
theorem da_tup (h : Da a H v (.tuple ds)) : ∃ p xs, v = .ref p ∧ p ≠ a ∧ H p = some (.tup xs) ∧ DaAll a H xs ds := by
  cases h with
  | tup n e r => exact ⟨_, _, rfl, n, e, r⟩
theorem cut_whole {ds : List PyData} {lo hi : Option Int} (h : HT.sIx ds.length 0 lo = 0 ∧ HT.sIx ds.length ds.length hi = ds.length) : cutD ds lo hi = ds := by
  unfold cutD
  rw [h.1, h.2, List.drop_zero, Nat.sub_zero, List.take_length]
theorem sl_da {lo hi : Option Int} (w : H a ≠ none) (h : Da a H v (.tuple ds)) (q : ∀ v' H', Same H H' → Da a H' v' (.tuple (cutD ds lo hi)) → Q v' H') : rSlA K v lo hi H Q := by
  obtain ⟨p, xs, rfl, np, hp, hx⟩ := da_tup h
  refine ⟨p, xs, rfl, SqT.of hp, fun c => ?_, fun c t nt => ?_⟩
  · rw [hx.len] at c
    exact q _ _ (Same.refl H) (by rw [cut_whole c]; exact h)
  · have s := same_new (o := .tup (cutV xs lo hi)) nt
    exact q _ _ s (.tup (new_ne w nt) upd_same ((hx.cut lo hi).same s))
theorem cat_da (w : H a ≠ none) (h : Da a H v (.tuple ds)) (g : Da a H u (.tuple es)) (hz : ds.length + es.length ≤ 100000) (q : ∀ v' H', Same H H' → Da a H' v' (.tuple (ds ++ es)) → Q v' H') : rCatA K v u H Q := by
  obtain ⟨p, xs, rfl, np, hp, hx⟩ := da_tup h
  obtain ⟨r, ys, rfl, nr, hr, hy⟩ := da_tup g
  refine ⟨p, r, xs, ys, rfl, rfl, SqT.of hp, SqT.of hr, sz (by rw [hx.len, hy.len]; exact hz), fun c => ?_, fun c c2 => ?_, fun c c2 t nt => ?_⟩
  · subst c
    cases hx
    exact q _ _ (Same.refl H) g
  · subst c2
    cases hy
    exact q _ _ (Same.refl H) (by rw [List.append_nil]; exact h)
  · have s := same_new (o := .tup (xs ++ ys)) nt
    exact q _ _ s (.tup (new_ne w nt) upd_same ((hx.append hy).same s))
theorem rev_da (w : H a ≠ none) (h : Da a H v (.tuple ds)) (q : ∀ v' H', Same H H' → Da a H' v' (.tuple ds.reverse) → Q v' H') :
    ∃ p xs, v = .ref p ∧ SqT K H p xs ∧ ∀ t, H t = none → Q (.ref t) (upd H t (.tup xs.reverse)) := by
  obtain ⟨p, xs, rfl, np, hp, hx⟩ := da_tup h
  refine ⟨p, xs, rfl, SqT.of hp, fun t nt => ?_⟩
  have s := same_new (o := .tup xs.reverse) nt
  exact q _ _ s (.tup (new_ne w nt) upd_same (hx.rev.same s))
theorem list_da (w : H a ≠ none) (h : Da a H v (.tuple ds)) (q : ∀ v' H', Same H H' → Da a H' v' (.list ds) → Q v' H') :
    ∃ p ys, [v] = [.ref p] ∧ (SqL K H p ys ∨ SqT K H p ys) ∧ ∀ l, H l = none → Q (.ref l) (upd H l (.lst ys)) := by
  obtain ⟨p, xs, rfl, np, hp, hx⟩ := da_tup h
  refine ⟨p, xs, rfl, .inr (SqT.of hp), fun t nt => ?_⟩
  have s := same_new (o := .lst xs) nt
  exact q _ _ s (.lst (new_ne w nt) upd_same (hx.same s))
/-- a written tuple of values that are data -/
theorem tup_da {vs : List V} (w : H a ≠ none) (h : DaAll a H vs ds) (hz : ds.length ≤ 100000) (q : ∀ v' H', Same H H' → Da a H' v' (.tuple ds) → Q v' H') :
    vs.length ≤ sizeLine ∧ ∀ p, H p = none → Q (.ref p) (upd H p (.tup vs)) := by
  refine ⟨sz (by rw [h.len]; exact hz), fun t nt => ?_⟩
  have s := same_new (o := .tup vs) nt
  exact q _ _ s (.tup (new_ne w nt) upd_same (h.same s))
theorem newT {vs : List V} {p : Addr} (w : H a ≠ none) (h : DaAll a H vs ds) (n : H p = none) : Same H (upd H p (.tup vs)) ∧ Da a (upd H p (.tup vs)) (.ref p) (.tuple ds) :=
  ⟨same_new n, .tup (new_ne w n) upd_same (h.same (same_new n))⟩
theorem newL {vs : List V} {p : Addr} (w : H a ≠ none) (h : DaAll a H vs ds) (n : H p = none) : Same H (upd H p (.lst vs)) ∧ Da a (upd H p (.lst vs)) (.ref p) (.list ds) :=
  ⟨same_new n, .lst (new_ne w n) upd_same (h.same (same_new n))⟩
/-- an item of such a one -/
theorem ix_da {i : Int} (h : Da a H v (.tuple ds)) (i0 : 0 ≤ i) (i1 : i < ds.length) (q : ∀ x d, d ∈ ds → Da a H x d → Q x H) : rIxT K v (.int i) H Q := by
  obtain ⟨p, xs, rfl, np, hp, hx⟩ := da_tup h
  obtain ⟨m, rfl⟩ := Int.eq_ofNat_of_zero_le i0
  have hm : m < xs.length := by rw [hx.len]; omega
  obtain ⟨d, e1, e2⟩ := hx.get (List.getElem?_eq_getElem hm)
  exact ⟨p, xs, _, xs[m], rfl, rfl, SqT.of hp, atI_nat (List.getElem?_eq_getElem hm), q _ d (List.mem_of_getElem? e1) e2⟩
end
theorem cut_mem {ds : List PyData} {lo hi : Option Int} {d : PyData} (h : d ∈ cutD ds lo hi) : d ∈ ds := List.mem_of_mem_drop (List.mem_of_mem_take h)
theorem cut_le (ds : List PyData) (lo hi : Option Int) : (cutD ds lo hi).length ≤ ds.length := by
  unfold cutD
  rw [List.length_take, List.length_drop]
  omega
theorem cut_upto (ds : List PyData) (k : Nat) : (cutD ds none (some (k : Int))).length = min k ds.length := by
  unfold cutD
  rw [HT.sIx_nat, HT.sIx_none, List.drop_zero, Nat.sub_zero, List.length_take]
  omega
theorem cut_from (ds : List PyData) (k : Nat) : (cutD ds (some (k : Int)) none).length = ds.length - min k ds.length := by
  unfold cutD
  rw [HT.sIx_nat, HT.sIx_none, List.length_take, List.length_drop]
  omega
theorem sm_sub {n m n' m' : Nat} {ds es : List PyData} (h : Sm n m (.tuple ds)) (hl : es.length ≤ m') (h1 : n ≤ n') (h2 : m ≤ m') (he : ∀ e ∈ es, e ∈ ds ∨ Sm (n' - 1) m' e) : Sm n' m' (.tuple es) := by
  have n1 := h.dep1
  have := sm_tup (n := n' - 1) hl fun e q => by
    rcases he e q with c | c
    · exact (h.mem c).up (by omega) h2
    · exact c
  exact this.up (by omega) (Nat.le_refl _)
theorem sm_subL {n m n' m' : Nat} {ds es : List PyData} (h : Sm n m (.tuple ds)) (hl : es.length ≤ m') (h1 : n ≤ n') (h2 : m ≤ m') (he : ∀ e ∈ es, e ∈ ds ∨ Sm (n' - 1) m' e) : Sm n' m' (.list es) := by
  have n1 := h.dep1
  have := sm_lst (n := n' - 1) hl fun e q => by
    rcases he e q with c | c
    · exact (h.mem c).up (by omega) h2
    · exact c
  exact this.up (by omega) (Nat.le_refl _)
theorem sm_int (n m : Nat) (i : Int) : Sm n m (.int i) := ⟨Nat.zero_le _, Nat.zero_le _⟩
theorem sm_bl (n m : Nat) (b : Bool) : Sm n m (.bool b) := ⟨Nat.zero_le _, Nat.zero_le _⟩
end Tw

set_option Elab.async false
set_option linter.all false
set_option maxRecDepth 100000
set_option maxHeartbeats 4000000
/-! rules: max with default, few times a tuple, *= and >>=, statements that are not reached -/
namespace Tw
open PySem PySem.Spec PyProof.Rows L2
section
variable {X : Cx}
/-- a statement that is not reached -/
def tDead : TS := fun _ _ _ => False
theorem ps_dead {st : Stmt} : PS X st tDead := ⟨fun _ _ _ _ _ _ h => h.elim⟩
theorem pss_dead {st : List Stmt} : PSs X st tDead := ⟨fun _ _ _ _ _ _ h => h.elim⟩
/-- max(l, default=0) of ints that are not negative -/
def maxN (ns : List Int) : Int := ns.foldl max 0
def rMaxZ (K : PySem.W.Frag) : List V → List V → Hp → VK → Prop := fun vs zs H Q => ∃ (a : Addr) (ns : List Int), vs = [.ref a] ∧ zs = [.int 0] ∧ SqL K H a (ns.map V.int) ∧ (∀ n ∈ ns, 0 ≤ n) ∧ Q (.int (maxN ns)) H
theorem cr_maxZ (hc : X.calm = true) (hu : X.A.units + 64 < cLine) : CallRK X (.builtin "max") [Str.ofString "default"] (rMaxZ X.K) := by
  intro pins s σ H vs zs us ws Q I r rz h
  obtain ⟨a, ns, rfl, rfl, hs, hn, q⟩ := h
  obtain ⟨its, rv, hl, _⟩ := I.list hs
  rw [Vals.ref1 r]
  obtain ⟨w1, rfl, e1⟩ := vals1 rz
  obtain ⟨t, rfl⟩ : ∃ t, w1 = Value.int 0 t := e1
  have rd : ReadsAll s.heap its.toArray.toList (ns.map .int) [] := IntsAre.reads _ rv.ints
  have dz : ∀ l : List Int, PyData.depthAll (l.map .int) = 0 := fun l => by
    induction l with
    | nil => rfl
    | cons n l ih => simp only [List.map_cons, PyData.depthAll, PyData.depth, ih]; rfl
  refine PySem.W.max_list_default (xs := ns.map .int) (I.ok.hd hc) hl.isList rd ⟨fun x hx y hy => ?_, fun x hx => ?_⟩ (by rw [dz]; show X.A.units + 1 + 0 < cLine; omega) (fun e h' tk k => ?_) (fun y ys i v h' tk bs e hv rv' k => ?_)
  · obtain ⟨i, _, rfl⟩ := List.mem_map.mp hx
    obtain ⟨j, _, rfl⟩ := List.mem_map.mp hy
    simp only [PySem.W.alike]
  · obtain ⟨i, _, rfl⟩ := List.mem_map.mp hx
    exact fun e => by cases e
  · have : ns = [] := by simpa using e
    subst this
    exact ⟨.int _, H, I.kept k, ⟨_, rfl⟩, q⟩
  · cases ns with
    | nil => cases e
    | cons n l =>
      rw [List.map_cons] at e
      injection e with e1 e2
      subst e1 e2
      rw [PySem.W.maxD_ints] at rv'
      cases rv' with
      | int _ t' =>
        have n0 := hn n (by simp)
        refine ⟨.int _, H, I.kept k, ⟨_, rfl⟩, ?_⟩
        have : maxN (n :: l) = l.foldl max n := by
          unfold maxN
          rw [List.foldl_cons]
          congr 1
          omega
        rw [← this]
        exact q
/-- o *= e, one of them small -/
theorem ip_mul : PIp X .Mult (fun x y H Q => ∃ i j, x = .int i ∧ y = .int j ∧ CMul i j ∧ Q (.int (i * j)) H) := by
  intro pins s σ H x y v u Q I r1 r2 h
  obtain ⟨i, j, rfl, rfl, c, q⟩ := h
  obtain ⟨t, rfl⟩ := r1
  obtain ⟨t', rfl⟩ := r2
  exact PyProof.Rows.imul_int ⟨.int _, H, I.tok _, ⟨_, rfl⟩, q⟩ c.ok
/-- o >>= 1 -/
theorem ip_half : PIp X .RShift (fun x y H Q => ∃ n : Nat, x = .int (n : Int) ∧ y = .int 1 ∧ Q (.int ((n / 2 : Nat) : Int)) H) := by
  intro pins s σ H x y v u Q I r1 r2 h
  obtain ⟨n, rfl, rfl, q⟩ := h
  obtain ⟨t, rfl⟩ := r1
  obtain ⟨t', rfl⟩ := r2
  refine PyProof.Rows.irshift_int (by decide) ?_
  rw [show (2 : Int) ^ (1 : Int).toNat = 2 from rfl, Int.fdiv_eq_ediv_of_nonneg _ (by decide)]
  exact ⟨.int _, H, I.tok _, ⟨_, rfl⟩, q⟩

/-! k times a tuple, k from 0 on -/
theorem tuple_mul1 (l : Addr) (items : Array Value) (n : Nat) (dd : Option Addr) (sl : Array (Option Value)) (u : Tok) :
    Meets (Builtin.«tuple.__mul__» ⟨[.ref l, .int 1 u], []⟩) (fun _ R s => s.heap.get? l = some { cls := .type "tuple", dict := dd, data := .seq items n, slots := sl } ∧ R (.ok (.ret (Value.ref l))) s) :=
  .of_wp fun prog w A R s h => by
    obtain ⟨hp, g, d, tk, os⟩ := s
    obtain ⟨hl, h⟩ := h
    have f1 := AutoSeq1.idx_int
    wp_walk using wpAny_loadPart' hl
    repeat (first
      | (refine wpAny_ite_false (by decide) ?_; wp_walk using wpAny_loadPart' hl)
      | (refine wpAny_ite_true (by simp) ?_; wp_walk using wpAny_loadPart' hl))
    exact ⟨_, rfl, h⟩
theorem tuple_mul0 (l : Addr) (items : Array Value) (n : Nat) (dd : Option Addr) (sl : Array (Option Value)) (u : Tok) (c1 : (items.isEmpty || (0 : Int) == 1) = false) :
    Meets (Builtin.«tuple.__mul__» ⟨[.ref l, .int 0 u], []⟩) (fun _ R s => s.heap.get? l = some { cls := .type "tuple", dict := dd, data := .seq items n, slots := sl } ∧
      R (.ok (.ret (Value.ref s.heap.objs.size))) { s with heap := s.heap.push { cls := Value.type "tuple", data := Data.seq #[] }, toks := s.toks }) :=
  .of_wp fun prog w A R s h => by
    obtain ⟨hp, g, d, tk, os⟩ := s
    obtain ⟨hl, h⟩ := h
    have f1 := AutoSeq1.idx_int
    wp_walk using wpAny_loadPart' hl
    repeat (first
      | (refine wpAny_ite_false (decide_eq_false (by rw [c1]; exact Bool.false_ne_true)) ?_; wp_walk using wpAny_loadPart' hl)
      | (refine wpAny_ite_false (by decide) ?_; wp_walk using wpAny_loadPart' hl)
      | (refine wpAny_ite_true (by simp) ?_; wp_walk using wpAny_loadPart' hl))
    exact ⟨_, rfl, h⟩
def rMulT (K : PySem.W.Frag) : R2 := fun x y H Q => ∃ (l : Addr) (k : Nat) (xs : List V), x = .ref l ∧ y = .int (k : Int) ∧ SqT K H l xs ∧ xs ≠ [] ∧ k ≤ 1000 ∧ xs.length ≤ 1000 ∧
  ∀ t H', Same H H' → SqT K H' t (List.replicate k xs).flatten → Q (.ref t) H'
theorem op_mulT : OpR X (binaryOp .Mult) (rMulT X.K) := by
  intro pins s σ H x y v u Q I rx ry h
  obtain ⟨l, k, xs, rfl, rfl, hT, hne, h1, hz, q⟩ := h
  rcases Nat.lt_or_ge 1 k with h2 | h2
  · exact op_repT pins s σ H _ _ v u Q I rx ry ⟨l, _, xs, rfl, rfl, hT, hne, by omega, by omega, hz, fun p np => q p _ (same_new np) (SqT.of (by rw [Int.toNat_natCast]; exact upd_same))⟩
  have rx' := rx
  cases rx
  obtain ⟨t, rfl⟩ := ry
  obtain ⟨its, r, ⟨⟨cls, dd, data, sl⟩, ho, hc, n, hd⟩, hs⟩ := I.tuple hT
  simp only at hc hd
  subst hc hd
  have hle : its.length = xs.length := r.length.symm
  have hn : its ≠ [] := fun e => hne (by
    rw [e] at hle
    exact List.eq_nil_of_length_eq_zero hle.symm)
  have hi : its.toArray.isEmpty = false := by
    cases its with
    | nil => exact absurd rfl hn
    | cons a b => rfl
  have hk : k = 0 ∨ k = 1 := by omega
  rcases hk with rfl | rfl
  · refine wpAny_binaryOp_repeat_ref (T := "tuple") (U := "int") (by decide) ⟨_, ho, rfl⟩ (fun s' => typeIs_int s' _ t) noFill_tuple_mul F.fills_int_mul F.slot_int_rmul repeat_tuple F.slot_int_index.lookup
      (call_meets F.slot_int_rmul (typeIs_int s _ t) F.entry_int_rmul (F.args_int_rmul_2 _ _) (int_rmul_tuple _ t l its.toArray n dd sl)
        ⟨ho, rfl, ⟨_, ho, rfl⟩, call_meets F.slot_tuple_mul ⟨_, ho, rfl⟩ F.entry_tuple_mul (F.args_tuple_mul_2 _ _) (tuple_mul0 l its.toArray n dd sl t (by rw [hi]; rfl)) ⟨ho, ?_⟩⟩)
    refine ⟨.ref s.heap.objs.size, _, I.laid (t' := s.toks) (o := .tup []) (fun b ob q => Heap.get?_push_of_some _ q) (Nat.le_refl _) ?_, rfl, q _ _ (same_new (I.hok.fresh (Nat.le_refl _))) (SqT.of upd_same)⟩
    exact ⟨by simp, _, .nil, IsTup.new _ _⟩
  · refine wpAny_binaryOp_repeat_ref (T := "tuple") (U := "int") (by decide) ⟨_, ho, rfl⟩ (fun s' => typeIs_int s' _ t) noFill_tuple_mul F.fills_int_mul F.slot_int_rmul repeat_tuple F.slot_int_index.lookup
      (call_meets F.slot_int_rmul (typeIs_int s _ t) F.entry_int_rmul (F.args_int_rmul_2 _ _) (int_rmul_tuple _ t l its.toArray n dd sl)
        ⟨ho, rfl, ⟨_, ho, rfl⟩, call_meets F.slot_tuple_mul ⟨_, ho, rfl⟩ F.entry_tuple_mul (F.args_tuple_mul_2 _ _) (tuple_mul1 l its.toArray n dd sl t) ⟨ho, ?_⟩⟩)
    exact ⟨.ref l, H, I, rfl, q _ _ (Same.refl H) (by simpa using hT)⟩
end
end Tw

set_option Elab.async false
set_option linter.all false
set_option maxRecDepth 100000
set_option maxHeartbeats 4000000
/-! for i, x in enumerate(t), t a tuple -/
namespace Tw
open PySem PySem.Spec PyProof.Rows L2
/-- the tuple's iterator, the enumerate over it, as they are made -/
def itO (p : Addr) : Obj :=
  { cls := .type "tuple_iterator", data := .fields #[.ref p, .int 0 0] }
def enO (i : Addr) : Obj :=
  { cls := .type "enumerate", data := .fields #[.none, .bool false, .ref i, rawInt 0, .none, .none] }
theorem enum_newT (p : Addr) (its : Array Value) (k : Nat) (dd : Option Addr) (sl : Array (Option Value)) :
    Meets (Builtin.«enumerate.__new__» ⟨[.type "enumerate", .ref p], []⟩) (fun _ R s =>
      s.heap.get? p = some ⟨.type "tuple", dd, .seq its k, sl⟩ ∧
      R (.ok (.ret (.ref (s.heap.push (itO p)).objs.size))) { s with heap := (s.heap.push (itO p)).push (enO s.heap.objs.size) }) := by
  refine .of_wp fun prog w A R s h => ?_
  obtain ⟨hp, gn, dr, tk, os⟩ := s
  obtain ⟨hl, h⟩ := h
  have hsub := sub_enumerate
  have isT : (Shared.heap ⟨hp, gn, dr, tk, os⟩).IsTuple p its := ⟨_, hl, rfl, k, rfl⟩
  wp_walk using AutoSeq1.wpAny_loadPart' hl
  refine wpAny_stack_any fun _ => ?_
  refine wpAny_pure ?_
  split
  · rename_i c _ _ _ _ _
    cases (c == Value.type "enumerate") <;>
    · wp_walk using AutoSeq1.wpAny_loadPart' hl, wpAny_pyIter_tuple isT
      exact ⟨_, rfl, h⟩
  · wp_walk using AutoSeq1.wpAny_loadPart' hl, wpAny_pyIter_tuple isT
    exact ⟨_, rfl, h⟩
section
variable {prog : Program} {w : World} {A : Around} {E : Value → Shared → Prop} {s : Shared}
theorem call_enumT {p : Addr} {its : Array Value} {Q : Value → Shared → Prop} (hT : s.heap.IsTuple p its)
    (h : ∀ h', IsEnum h' (s.heap.objs.size + 1) s.heap.objs.size 0 .none → h'.IsTupleIter s.heap.objs.size p 0 →
      (∀ b o, s.heap.get? b = some o → h'.get? b = some o) → Q (.ref (s.heap.objs.size + 1)) { s with heap := h' }) :
    wpAny (model prog w) A (call (.type "enumerate") [.ref p]) Q E s := by
  obtain ⟨⟨c, dd, dt, sl⟩, hl, hc, k, hd⟩ := hT
  cases (show c = .type "tuple" from hc)
  cases (show dt = .seq its k from hd)
  have z1 : (s.heap.push (itO p)).objs.size = s.heap.objs.size + 1 := Heap.size_push ..
  have g1 : ((s.heap.push (itO p)).push (enO s.heap.objs.size)).get? (s.heap.objs.size + 1) = some (enO s.heap.objs.size) := by
    rw [← z1]
    exact Heap.get?_push_size _ rfl
  have g0 : ((s.heap.push (itO p)).push (enO s.heap.objs.size)).get? s.heap.objs.size = some (itO p) :=
    Heap.get?_push_of_some _ (Heap.get?_push_size _ rfl)
  refine callType_new F.called_enumerate (by decide) (F.typeCall_enumerate_1 _) (F.newCall_enumerate_1 _)
    (fun obj => F.args_object_init_2 obj _) F.entry_enumerate_new (enum_newT p its k dd sl) ⟨hl, ?_⟩
  show _ ∧ _
  rw [z1]
  exact ⟨⟨_, g1, rfl⟩, h _ g1 ⟨_, g0, rfl, rfl⟩ fun b o y => Heap.get?_push_of_some _ (Heap.get?_push_of_some _ y)⟩
end
/-- the tuple at a, each item in a new pair with its number -/
def IteT (K : PySem.W.Frag) (a : Addr) : It where
  go := fun i H => ∃ (xs : List V) (x : V), SqT K H a xs ∧ xs[i]? = some x
  yld := fun i H v H' => ∃ t x, v = .ref t ∧ H t = none ∧ H' = upd H t (.tup [.int (i : Nat), x]) ∧
    ∀ xs, SqT K H a xs → xs[i]? = some x
  stop := fun i H => ∃ xs : List V, SqT K H a xs ∧ xs.length = i
theorem apart {h : Heap} {a b : Addr} {o u : Obj} {m n : String} (ha : h.get? a = some o) (hb : h.get? b = some u)
    (ca : o.cls = .type m) (cb : u.cls = .type n) (d : m ≠ n) : a ≠ b := by
  rintro rfl
  rw [ha] at hb
  cases hb
  rw [ca] at cb
  cases cb
  exact d rfl
theorem turn_enumT {P : Program} {w : World} {K : PySem.W.Frag} {elts : List Expr} {kk : Nat} {tpos : Pos} (a e it : Addr) :
    Turn P w K (.Tuple elts kk tpos) (IteT K a) [e, it] e
      (fun i h => (∃ old, IsEnum h e it ((i : Nat) : Int) old) ∧ h.IsTupleIter it a i ∧ e ≠ it) where
  mem := by simp
  obj := fun i h st b hb => by
    obtain ⟨⟨old, he⟩, ⟨o, ho, hc, hd⟩, _⟩ := st
    rcases List.mem_cons.mp hb with z | z
    · subst z; exact ⟨_, he, fun v q => nomatch q⟩
    · have z := List.mem_singleton.mp z
      subst z; exact ⟨o, ho, fun v q => by rw [hd] at q; cases q⟩
  keep := fun i h h' st k => by
    obtain ⟨⟨old, he⟩, hi, hne⟩ := st
    exact ⟨⟨old, k e (by simp) _ he⟩, hi.at fun o q => k it (by simp) o q, hne⟩
  item := by
    intro X hP hw hK hc i pins s σ H E I hf st hg
    subst hP hw hK
    obtain ⟨⟨old, he⟩, hit, hne⟩ := st
    obtain ⟨xs, x, hq, hx⟩ := hg
    obtain ⟨its, rv, p, hz⟩ := I.tuple hq
    obtain ⟨u, hu, ru⟩ := rv.get hx
    have isT : s.heap.IsTuple a its.toArray := p
    obtain ⟨oa, ga, ca, _⟩ := id isT
    obtain ⟨oi, gi, ci, _⟩ := id hit
    have nai : a ≠ it := apart ga gi ca ci (by decide)
    have nea : e ≠ a := apart he ga rfl ca (by decide)
    have hel : e < s.heap.objs.size := Heap.lt_size he
    have hil : it < s.heap.objs.size := Heap.lt_size gi
    have hlt : i < its.toArray.size := by
      have := (List.getElem?_eq_some_iff.mp hu).1
      simpa using this
    refine wpAny_pyNext_enum_itemD (Draws.tuple (A := X.A.in1) (I.ok.hd hc) it a nai its.toArray) he ⟨hit, isT⟩ hlt hne
      (by simp [hne, nea]) fun y h' tk hy ho st' hT hsz hk => ?_
    have yu : y = u := by
      have : its[i]? = some y := by simpa using hy
      rw [hu] at this
      cases this; rfl
    subst yu
    refine ⟨_, rfl, wpAny_letOwnedTupleGo_enum (s := { s with heap := h', toks := tk + 1 }) ho fun h2 he2 sb => ?_⟩
    have hT2 := (sb.2 _ (Nat.ne_of_gt hel)).trans hT
    have new : ObjOk X.prog X.w (upd H s.heap.objs.size (.tup [.int (i : Nat), x])) h2 s.heap.objs.size (.tup [.int (i : Nat), x]) :=
      ⟨by show 2 ≤ sizeLine; decide, [.int i tk, y], .cons ⟨_, rfl⟩ (.cons ru .nil), ⟨_, hT2, rfl, _, rfl⟩⟩
    have old2 : ∀ b ob, b ∉ [e, it] → s.heap.get? b = some ob → h2.get? b = some ob := fun b ob hb q => by
      have b1 : b ≠ e := fun z => hb (by simp [z])
      have b2 : b ≠ it := fun z => hb (by simp [z])
      exact (sb.2 b b1).trans (hk b ob b1 b2 q)
    have I1 := I.turnedNew (t' := tk + 1) (ch := [e, it]) old2 hf (Nat.le_refl _) new
    refine ⟨.ref s.heap.objs.size, _, I1, rfl, ⟨_, x, rfl, I.hok.fresh (Nat.le_refl _), rfl, fun ys hy => by rw [I.tuple_inj hy hq]; exact hx⟩,
      ⟨⟨y, he2⟩, st'.1.at fun o q => (sb.2 it (Ne.symm hne)).trans q, hne⟩, fun b hb => ?_⟩
    have hb' : b < s.heap.objs.size := by
      rcases List.mem_cons.mp hb with z | z
      · rw [z]; exact hel
      · rw [List.mem_singleton.mp z]; exact hil
    rw [upd_ne (Nat.ne_of_lt hb')]
    exact (hf b hb).1
  done := by
    intro X hP hw hK hc i pins s σ H E I hf st hg
    subst hP hw hK
    obtain ⟨⟨old, he⟩, hit, hne⟩ := st
    obtain ⟨xs, hq, hx⟩ := hg
    obtain ⟨its, rv, p, hz⟩ := I.tuple hq
    obtain ⟨oa, ga, ca, _⟩ := id (show s.heap.IsTuple a its.toArray from p)
    obtain ⟨oi, gi, ci, _⟩ := id hit
    have nai : a ≠ it := apart ga gi ca ci (by decide)
    obtain ⟨f0, f1, f2, f3, f4, f5⟩ := hf it (by simp)
    have ei : i = its.toArray.size := by
      rw [← hx, rv.length, List.size_toArray]
    subst ei
    refine wpAny_pyNext_enum_endD (Draws.tuple (A := X.A.in1) (I.ok.hd hc) it a nai its.toArray) he ⟨hit, p⟩ fun h' eb => ?_
    exact ⟨rfl, I.turned (t' := s.toks) (fun b o hb q => eb b o hb q) f0 f1 f3 f4 f5⟩
  self := fun A i s Q E st h => by
    obtain ⟨⟨_, he⟩, _⟩ := st
    exact wpAny_pyIter_enum he h
/-- enumerate(e), e a tuple -/
def iEnumT (K : PySem.W.Frag) (te : TE) : TI := fun σ H R =>
  te σ H fun v H1 => ∃ a xs, v = .ref a ∧ SqT K H1 a xs ∧ R (IteT K a) H1
theorem pi_enumT {X : Cx} {e : Expr} {te : TE} {p pos tpos : Pos} {elts : List Expr} {kk : Nat} (hg : Gl X "enumerate")
    (hm : X.mg "enumerate" = none) (he : PE X e te) (hs : starEach [e] X.env = (false, eval e X.env) :: starEach [] X.env := by rfl) :
    PI X (.Tuple elts kk tpos) (.Call (.Name "enumerate" p) [e] [] pos) (iEnumT X.K te) := by
  refine ⟨fun pins s σ H R I h => ?_⟩
  refine Call_ (ld_blt I hg hm boot_enumerate (PyProof.Rows.callWith_type1 (args_cons
    (thn (he.run pins s σ H _ I h) fun u s1 ⟨v, H1, I1, r1, q1⟩ => args_nil ?_) hs) hs rfl))
  obtain ⟨a, xs, rfl, hq, q⟩ := q1
  cases r1
  obtain ⟨its, rv, isT, hz⟩ := I1.tuple hq
  refine call_enumT (show s1.heap.IsTuple a its.toArray from isT) fun h' en ti keep => wpAny_pyIter_enum en ?_
  refine ⟨s1.heap.objs.size + 1, [s1.heap.objs.size + 1, s1.heap.objs.size], _, _, H1, rfl, I1.kept (t' := s1.toks) keep,
    turn_enumT a (s1.heap.objs.size + 1) s1.heap.objs.size, ⟨⟨.none, en⟩, ti, Nat.succ_ne_self _⟩, fun b hb => ?_, q⟩
  have le : s1.heap.objs.size ≤ b := by
    rcases List.mem_cons.mp hb with z | z
    · rw [z]; exact Nat.le_add_right _ _
    · rw [List.mem_singleton.mp z]; exact Nat.le_refl _
  exact I1.fpOk le (I1.hok.fresh le)
/-- a loop over such pairs, its body already read -/
theorem for_enumT {K : PySem.W.Frag} {a : Addr} {xs : List V} {B : (L2.St → Hp → Prop) → V → L2.St → Hp → Prop} {nx : L2.St → Hp → Prop} {σ : L2.St} {H : Hp}
    (Pv : Nat → L2.St → Hp → Prop) (h0 : Pv 0 σ H) (hl : ∀ i σ' H', i ≤ xs.length → Pv i σ' H' → SqT K H' a xs)
    (hs : ∀ (i : Nat) x t σ' H', xs[i]? = some x → Pv i σ' H' → H' t = none → B (Pv (i + 1)) (.ref t) σ' (upd H' t (.tup [.int (i : Nat), x])))
    (hd : ∀ σ' H', Pv xs.length σ' H' → nx σ' H') :
    ∃ W : Nat → Nat → L2.St → Hp → Prop, (∃ m, W 0 m σ H) ∧ ∀ i m σ H, W i m σ H →
      ((IteT K a).stop i H ∧ nx σ H) ∨ ((IteT K a).go i H ∧ ∃ N : L2.St → Hp → Prop, (∀ σ' H', N σ' H' → ∃ m', m' < m ∧ W (i + 1) m' σ' H') ∧
        ∀ x H', (IteT K a).yld i H x H' → B N x σ H') := by
  refine ⟨fun i m σ H => m = xs.length - i ∧ i ≤ xs.length ∧ Pv i σ H, ⟨xs.length, by simp, Nat.zero_le _, h0⟩, ?_⟩
  rintro i m σ' H' ⟨rfl, hi, p⟩
  have ql := hl i σ' H' hi p
  by_cases c : i < xs.length
  · refine Or.inr ⟨⟨xs, xs[i], ql, by simp [c]⟩, Pv (i + 1), fun σ2 H2 p2 => ⟨xs.length - (i + 1), by omega, rfl, c, p2⟩, fun v H2 y => ?_⟩
    obtain ⟨t, x, rfl, nt, rfl, e2⟩ := y
    exact hs i x t σ' H' (e2 xs ql) p nt
  · have e : i = xs.length := by omega
    subst e
    exact Or.inl ⟨⟨xs, ql, rfl⟩, hd σ' H' p⟩
/-- .. in a comprehension -/
theorem lc_enumT {K : PySem.W.Frag} {a : Addr} {xs : List V} {gt : TG} {tt : TT} {te : TE} {vs : List Nat} {σ : L2.St} {H1 : Hp} {D : Addr} {Qd : Hp → Prop}
    (Pv : Nat → Hp → Prop) (h0 : Pv 0 (upd H1 D (.lst []))) (hl : ∀ i H, i ≤ xs.length → Pv i H → SqT K H a xs)
    (hs : ∀ (i : Nat) x t H, xs[i]? = some x → Pv i H → H t = none → gt (.ref t) (wipe σ vs) (upd H t (.tup [.int (i : Nat), x])) fun σ2 H2 =>
      wipe σ2 vs = wipe σ vs ∧ tt σ2 H2 fun b H3 => if b = true then te σ2 H3 fun y H4 => ∃ acc, H4 D = some (.lst acc) ∧
        acc.length < sizeLine ∧ Pv (i + 1) (upd H4 D (.lst (acc ++ [y]))) else Pv (i + 1) H3)
    (hd : ∀ H, Pv xs.length H → Qd H) :
    ∃ W : Nat → Nat → Hp → Prop, (∃ m, W 0 m (upd H1 D (.lst []))) ∧ ∀ i m H, W i m H →
      ((IteT K a).stop i H ∧ Qd H) ∨ ((IteT K a).go i H ∧ ∃ Nx : Hp → Prop, (∀ H', Nx H' → ∃ m', m' < m ∧ W (i + 1) m' H') ∧
        ∀ x H', (IteT K a).yld i H x H' → gt x (wipe σ vs) H' fun σ2 H2 => wipe σ2 vs = wipe σ vs ∧ tt σ2 H2 fun b H3 =>
          if b = true then te σ2 H3 fun y H4 => ∃ acc, H4 D = some (.lst acc) ∧ acc.length < sizeLine ∧
            Nx (upd H4 D (.lst (acc ++ [y]))) else Nx H3) := by
  refine ⟨fun i m H => m = xs.length - i ∧ i ≤ xs.length ∧ Pv i H, ⟨xs.length, by simp, Nat.zero_le _, h0⟩, ?_⟩
  rintro i m H ⟨rfl, hi, p⟩
  have ql := hl i H hi p
  by_cases c : i < xs.length
  · refine Or.inr ⟨⟨xs, xs[i], ql, by simp [c]⟩, Pv (i + 1), fun H2 p2 => ⟨xs.length - (i + 1), by omega, rfl, c, p2⟩, fun v H2 y => ?_⟩
    obtain ⟨t, x, rfl, nt, rfl, e2⟩ := y
    exact hs i x t H (e2 xs ql) p nt
  · have e : i = xs.length := by omega
    subst e
    exact Or.inl ⟨⟨xs, ql, rfl⟩, hd H p⟩
end Tw

set_option linter.all false
set_option maxRecDepth 10000
/-! numbers, rows, polys: what the answers are -/
namespace K22
/-- without the last items that z holds of -/
def trimBy {α : Type} (z : α → Bool) : List α → List α
  | [] => []
  | a :: l => match trimBy z l with
    | [] => if z a then [] else [a]
    | b :: r => a :: b :: r
theorem trimBy_take {α : Type} (z : α → Bool) : ∀ (l : List α) (k : Nat), k ≤ l.length → (∀ i a, k ≤ i → l[i]? = some a → z a = true) → (k = 0 ∨ ∃ a, l[k - 1]? = some a ∧ z a = false) → trimBy z l = l.take k
  | [], k, hk, _, _ => by simp [trimBy]
  | a :: l, 0, _, h1, _ => by
    have ih := trimBy_take z l 0 (Nat.zero_le _) (fun i b _ e => h1 (i + 1) b (Nat.zero_le _) (by simpa using e)) (.inl rfl)
    have za := h1 0 a (Nat.le_refl _) rfl
    simp [trimBy, ih, za]
  | a :: l, 1, _, h1, h2 => by
    have ih := trimBy_take z l 0 (Nat.zero_le _) (fun i b _ e => h1 (i + 1) b (by omega) (by simpa using e)) (.inl rfl)
    have za : z a = false := by
      rcases h2 with h2 | ⟨b, e, f⟩
      · cases h2
      · simp at e; subst e; exact f
    simp [trimBy, ih, za]
  | a :: l, k + 2, hk, h1, h2 => by
    have hk' : k + 1 ≤ l.length := by rw [List.length_cons] at hk; omega
    have ih := trimBy_take z l (k + 1) hk' (fun i b hi e => h1 (i + 1) b (by omega) (by simpa using e)) (by
      rcases h2 with h2 | ⟨b, e, f⟩
      · cases h2
      · exact .inr ⟨b, by simpa using e, f⟩)
    have hn : l.take (k + 1) ≠ [] := by
      intro e
      have := congrArg List.length e
      rw [List.length_take, List.length_nil] at this
      omega
    rw [trimBy, ih]
    cases e : l.take (k + 1) with
    | nil => exact absurd e hn
    | cons b r => simp [e]
theorem trimBy_len {α : Type} (z : α → Bool) : ∀ l : List α, (trimBy z l).length ≤ l.length
  | [] => Nat.le_refl _
  | a :: l => by
    have := trimBy_len z l
    rw [trimBy]
    split
    · split <;> simp
    · rename_i b r e
      rw [e] at this
      simpa using this
theorem trimBy_mem {α : Type} (z : α → Bool) {x : α} : ∀ l : List α, x ∈ trimBy z l → x ∈ l
  | [], h => h
  | a :: l, h => by
    have ih := trimBy_mem z (x := x) l
    rw [trimBy] at h
    split at h
    · split at h
      · simp at h
      · simp at h; simp [h]
    · rename_i b r e
      rw [e] at ih
      rcases List.mem_cons.mp h with h | h
      · simp [h]
      · exact List.mem_cons_of_mem _ (ih h)
theorem trimBy_last {α : Type} (z : α → Bool) {x : α} : ∀ l : List α, (trimBy z l).getLast? = some x → z x = false
  | [], h => by simp [trimBy] at h
  | a :: l, h => by
    have ih := trimBy_last z (x := x) l
    rw [trimBy] at h
    split at h
    · split at h
      · simp at h
      · rename_i hz
        simp at h; subst h; simpa using hz
    · rename_i b r e
      rw [e] at ih
      exact ih (by simpa using h)
abbrev trimI (l : List Int) : List Int := trimBy (fun c => c == 0) l
abbrev trimP (p : List (List Int)) : List (List Int) := trimBy (fun r => r.isEmpty) p
/-- a row, a poly -/
def okR (r : List Int) : Prop := ∀ c, r.getLast? = some c → c ≠ 0
def okP (p : List (List Int)) : Prop := (∀ r ∈ p, okR r) ∧ ∀ r, p.getLast? = some r → r ≠ []
theorem okR_trim (l : List Int) : okR (trimI l) := fun c h => by
  have := trimBy_last _ _ h
  simpa using this
theorem okP_trim {p : List (List Int)} (h : ∀ r ∈ p, okR r) : okP (trimP p) := ⟨fun r hr => h r (trimBy_mem _ _ hr), fun r hr => by
  have := trimBy_last _ _ hr
  intro e
  subst e
  simp at this⟩
/-- at most n long, numbers at most b -/
def Bd (n : Nat) (b : Nat) (p : List (List Int)) : Prop := p.length ≤ n ∧ ∀ r ∈ p, r.length ≤ n ∧ ∀ c ∈ r, c.natAbs ≤ b
def T (n m : Int) : List Int → Int
  | [] => 0
  | c :: r => T n m r * n + c * m ^ r.length
def lng : List (List Int) → Nat
  | [] => 0
  | r :: p => max r.length (lng p)
theorem lng_le {r : List Int} : ∀ {p : List (List Int)}, r ∈ p → r.length ≤ lng p
  | a :: p, h => by
    rw [lng]
    rcases List.mem_cons.mp h with rfl | h
    · exact Nat.le_max_left _ _
    · exact Nat.le_trans (lng_le h) (Nat.le_max_right _ _)
theorem lng_bd {n : Nat} : ∀ {p : List (List Int)}, (∀ r ∈ p, r.length ≤ n) → lng p ≤ n
  | [], _ => Nat.zero_le _
  | r :: p, h => by
    rw [lng]
    exact Nat.max_le.mpr ⟨h r (by simp), lng_bd fun a ha => h a (by simp [ha])⟩
def numAt (n m : Int) (L : Nat) (r : List Int) : Int := T n m r * m ^ (L - r.length)
def nums (n m : Int) (p : List (List Int)) : List Int := p.map (numAt n m (lng p))
/-- what numbers and M share -/
def G : Nat → List Int → Nat
  | M, [] => M
  | M, x :: l => G (Nat.gcd M x.natAbs) l
def mm (m : Int) (k : Nat) : Nat := m.natAbs ^ k
def atx (n m : Int) (p : List (List Int)) : List Int := trimI ((nums n m p).map fun x => x / (G (mm m (lng p - 1)) (nums n m p) : Int))
def col (p : List (List Int)) (k : Nat) : List Int := trimI (p.map fun r => r.getD k 0)
def exch (p : List (List Int)) : List (List Int) := trimP ((List.range (lng p)).map (col p))
theorem okP_exch (p : List (List Int)) : okP (exch p) := okP_trim fun r hr => by
  obtain ⟨k, _, rfl⟩ := List.mem_map.mp hr
  exact okR_trim _
theorem bd_exch {n b : Nat} {p : List (List Int)} (h : Bd n b p) : Bd n b (exch p) := by
  refine ⟨Nat.le_trans (trimBy_len _ _) (by rw [List.length_map, List.length_range]; exact lng_bd fun r hr => (h.2 r hr).1), fun r hr => ?_⟩
  obtain ⟨k, _, rfl⟩ := List.mem_map.mp (trimBy_mem _ _ hr)
  refine ⟨Nat.le_trans (trimBy_len _ _) (by rw [List.length_map]; exact h.1), fun c hc => ?_⟩
  obtain ⟨r, hr, rfl⟩ := List.mem_map.mp (trimBy_mem _ _ hc)
  rw [List.getD_eq_getElem?_getD]
  cases e : r[k]? with
  | none => simp
  | some x => exact (h.2 r hr).2 x (List.mem_of_getElem? e)
theorem G_append : ∀ (M : Nat) (l : List Int) (x : Int), G M (l ++ [x]) = Nat.gcd (G M l) x.natAbs
  | M, [], x => rfl
  | M, y :: l, x => by
    show G _ (l ++ [x]) = Nat.gcd (G _ l) x.natAbs
    exact G_append _ l x
theorem G_dvd : ∀ (l : List Int) (M : Nat), G M l ∣ M
  | [], M => Nat.dvd_refl _
  | x :: l, M => Nat.dvd_trans (G_dvd l _) (Nat.gcd_dvd_left _ _)
theorem G_mem {y : Int} : ∀ (l : List Int) (M : Nat), y ∈ l → G M l ∣ y.natAbs
  | x :: l, M, h => by
    rcases List.mem_cons.mp h with rfl | h
    · exact Nat.dvd_trans (G_dvd l _) (Nat.gcd_dvd_right _ _)
    · exact G_mem l _ h
theorem G_gcd : ∀ (l : List Int) (a M : Nat), Nat.gcd (G a l) M = G (Nat.gcd a M) l
  | [], a, M => rfl
  | x :: l, a, M => by
    show Nat.gcd (G (Nat.gcd a x.natAbs) l) M = G (Nat.gcd (Nat.gcd a M) x.natAbs) l
    rw [G_gcd l, Nat.gcd_assoc, Nat.gcd_comm x.natAbs M, ← Nat.gcd_assoc]
theorem G_one (l : List Int) : G 1 l = 1 := Nat.eq_one_of_dvd_one (G_dvd l 1)
/-- the program's share -/
theorem G_zero (l : List Int) (M : Nat) : Nat.gcd (G 0 l) M = G M l := by rw [G_gcd, Nat.gcd_zero_left]
/-- a over b is N over D, b positive, nothing shared -/
def Lo (a b N D : Int) : Prop := 0 < b ∧ Nat.gcd a.natAbs b.natAbs = 1 ∧ a * D = N * b
theorem lo_share {a b N D : Int} (h : Lo a b N D) (d : 0 < D) : b * (Nat.gcd N.natAbs D.natAbs : Int) = D ∧ a * (Nat.gcd N.natAbs D.natAbs : Int) = N := by
  obtain ⟨b0, c, e⟩ := h
  have dv : b ∣ D := by
    have h1 : b.natAbs ∣ a.natAbs * D.natAbs := by
      rw [← Int.natAbs_mul, e, Int.natAbs_mul]
      exact Nat.dvd_mul_left _ _
    have h2 : b.natAbs ∣ D.natAbs := (Nat.Coprime.dvd_of_dvd_mul_left (Nat.coprime_comm.mp c) h1)
    exact Int.natAbs_dvd_natAbs.mp h2
  obtain ⟨k, rfl⟩ := dv
  have k0 : 0 < k := by
    rcases Int.lt_or_le 0 k with z | z
    · exact z
    · have := Int.mul_le_mul_of_nonneg_left z (Int.le_of_lt b0)
      rw [Int.mul_zero] at this
      omega
  have eN : N = a * k := by
    have h3 : (a * k) * b = N * b := by rw [← e, Int.mul_assoc, Int.mul_comm k b]
    exact (Int.eq_of_mul_eq_mul_right (by omega) h3).symm
  subst eN
  have g : (Nat.gcd (a * k).natAbs (b * k).natAbs : Int) = k := by
    rw [Int.natAbs_mul, Int.natAbs_mul, Nat.gcd_mul_right, c, Nat.one_mul]
    omega
  rw [g]
  exact ⟨rfl, rfl⟩
/-- the least common multiple's step -/
theorem lcm_step {l g b h M : Nat} (m0 : 0 < M) (e1 : l * g = M) (e2 : b * h = M) : (l * b / Nat.gcd l b) * Nat.gcd g h = M := by
  have hl : l ∣ M := ⟨g, e1.symm⟩
  have l0 : 0 < l := Nat.pos_of_dvd_of_pos hl m0
  have d0 : 0 < Nat.gcd l b := Nat.gcd_pos_of_pos_left _ l0
  have q : (l * b / Nat.gcd l b) * Nat.gcd l b = l * b := Nat.div_mul_cancel (Nat.dvd_trans (Nat.gcd_dvd_left l b) (Nat.dvd_mul_right _ _))
  have k : Nat.gcd g h * (l * b) = M * Nat.gcd l b := by
    rw [← Nat.gcd_mul_right]
    have a1 : g * (l * b) = M * b := by rw [← e1, ← Nat.mul_assoc, Nat.mul_comm g l]
    have a2 : h * (l * b) = M * l := by rw [← e2, Nat.mul_comm l b, ← Nat.mul_assoc, Nat.mul_comm h b]
    rw [a1, a2, Nat.gcd_mul_left, Nat.gcd_comm b l]
  refine Nat.eq_of_mul_eq_mul_right d0 ?_
  rw [Nat.mul_assoc, Nat.mul_comm (Nat.gcd g h), ← Nat.mul_assoc, q, Nat.mul_comm (l * b), k]
theorem pow_pos' {m : Int} (h : 0 < m) : ∀ k : Nat, 0 < m ^ k
  | 0 => by simp
  | k + 1 => by rw [Int.pow_succ]; exact Int.mul_pos (pow_pos' h k) h
theorem mm_eq {m : Int} (h : 0 < m) (k : Nat) : ((mm m k : Nat) : Int) = m ^ k := by
  unfold mm
  rw [Int.natCast_pow, Int.natAbs_of_nonneg (Int.le_of_lt h)]
/-- a row's worth, over the common base -/
theorem lo_at {n m a b : Int} {r : List Int} {L : Nat} (m0 : 0 < m) (hl : r.length ≤ L) (h : Lo a b (T n m r * m) (m ^ r.length)) : Lo a b (numAt n m L r) (m ^ (L - 1)) := by
  refine ⟨h.1, h.2.1, ?_⟩
  have e := h.2.2
  unfold numAt
  cases hr : r with
  | nil =>
    subst hr
    have : a = 0 := by simpa [T] using e
    simp [T, this]
  | cons c s =>
    rw [← hr]
    have l1 : r.length = s.length + 1 := by rw [hr]; rfl
    have e2 : a * m ^ s.length = T n m r * b := by
      rw [l1, Int.pow_succ] at e
      refine Int.eq_of_mul_eq_mul_right (a := m) (by omega) ?_
      rw [Int.mul_assoc, e, Int.mul_assoc, Int.mul_comm m b, Int.mul_assoc]
    have e3 : L - 1 = s.length + (L - r.length) := by omega
    rw [e3, Int.pow_add, ← Int.mul_assoc, e2, Int.mul_assoc, Int.mul_comm b, ← Int.mul_assoc]
/-! sizes -/
theorem T_le {n m : Int} {B : Nat} (hn : n.natAbs ≤ 12) (m0 : m.natAbs ≤ 7) : ∀ r : List Int, (∀ c ∈ r, c.natAbs ≤ B) → (T n m r).natAbs ≤ B * 20 ^ r.length
  | [], _ => by simp [T]
  | c :: r, h => by
    have ih := T_le hn m0 r fun d hd => h d (by simp [hd])
    have hc := h c (by simp)
    rw [T]
    refine Nat.le_trans (Int.natAbs_add_le _ _) ?_
    rw [Int.natAbs_mul, Int.natAbs_mul, Int.natAbs_pow, List.length_cons, Nat.pow_succ]
    have a1 : (T n m r).natAbs * n.natAbs ≤ B * 20 ^ r.length * 12 := Nat.mul_le_mul ih hn
    have a2 : c.natAbs * m.natAbs ^ r.length ≤ B * 20 ^ r.length := Nat.mul_le_mul hc (Nat.le_trans (Nat.pow_le_pow_left m0 _) (Nat.pow_le_pow_left (by omega) _))
    have a3 : B * (20 ^ r.length * 20) = B * 20 ^ r.length * 20 := by rw [Nat.mul_assoc]
    omega
theorem num_le {n m : Int} {B L : Nat} (hn : n.natAbs ≤ 12) (m0 : m.natAbs ≤ 7) (hL : L ≤ 10) {r : List Int} (hr : r.length ≤ 10) (h : ∀ c ∈ r, c.natAbs ≤ B) : (numAt n m L r).natAbs ≤ B * 20 ^ 10 * 7 ^ 10 := by
  unfold numAt
  rw [Int.natAbs_mul, Int.natAbs_pow]
  refine Nat.mul_le_mul (Nat.le_trans (T_le hn m0 r h) (Nat.mul_le_mul_left _ (Nat.pow_le_pow_right (by omega) hr))) ?_
  exact Nat.le_trans (Nat.pow_le_pow_left m0 _) (Nat.pow_le_pow_right (by omega) (by omega))
theorem lo_lean {top low : Int} (h : 0 < low) : Lo (top / (Nat.gcd top.natAbs low.natAbs : Int)) (low / (Nat.gcd top.natAbs low.natAbs : Int)) top low := by
  have g0 : 0 < Nat.gcd top.natAbs low.natAbs := Nat.gcd_pos_of_pos_right _ (by omega)
  generalize hg : Nat.gcd top.natAbs low.natAbs = g at g0
  have d1 : (g : Int) ∣ top := Int.natAbs_dvd_natAbs.mp (by rw [← hg]; exact Nat.gcd_dvd_left _ _)
  have d2 : (g : Int) ∣ low := Int.natAbs_dvd_natAbs.mp (by rw [← hg]; exact Nat.gcd_dvd_right _ _)
  obtain ⟨x, rfl⟩ := d1
  obtain ⟨y, rfl⟩ := d2
  have gn : (g : Int) ≠ 0 := by omega
  rw [Int.mul_ediv_cancel_left _ gn, Int.mul_ediv_cancel_left _ gn]
  refine ⟨?_, ?_, by grind⟩
  · rcases Int.lt_or_le 0 y with z | z
    · exact z
    · have := Int.mul_le_mul_of_nonneg_left z (show (0 : Int) ≤ g by omega)
      rw [Int.mul_zero] at this
      omega
  · rw [Int.natAbs_mul, Int.natAbs_mul, Nat.gcd_mul_left, Int.natAbs_natCast] at hg
    have h1 : g * Nat.gcd x.natAbs y.natAbs = g * 1 := by rw [hg, Nat.mul_one]
    exact Nat.eq_of_mul_eq_mul_left g0 h1
theorem lo_mul {a b N D n m x y : Int} (h : Lo a b N D) (g : Lo x y (a * n) (b * m)) : Lo x y (N * n) (D * m) := by
  refine ⟨g.1, g.2.1, ?_⟩
  have b0 := h.1
  have h1 := h.2.2
  have h2 := g.2.2
  have : (x * (D * m)) * b = (N * n * y) * b := by grind
  exact Int.eq_of_mul_eq_mul_right (by omega) this
theorem lo_add {a b N D c x y : Int} (h : Lo a b N D) (g : Lo x y (a * 1 + c * b) (b * 1)) : Lo x y (N + c * D) D := by
  refine ⟨g.1, g.2.1, ?_⟩
  have b0 := h.1
  have h1 := h.2.2
  have h2 := g.2.2
  have : (x * D) * b = ((N + c * D) * y) * b := by grind
  exact Int.eq_of_mul_eq_mul_right (by omega) this
theorem lo_le {a b N D : Int} (h : Lo a b N D) (d : 0 < D) : b ≤ D := by
  have := (lo_share h d).1
  have g0 : 0 < Nat.gcd N.natAbs D.natAbs := Nat.gcd_pos_of_pos_right _ (by omega)
  have b0 := h.1
  have := Int.mul_le_mul_of_nonneg_left (show (1 : Int) ≤ (Nat.gcd N.natAbs D.natAbs : Int) by omega) (show 0 ≤ b by omega)
  omega
theorem pow_le7 {m : Int} (m0 : 0 < m) (m1 : m ≤ 7) (k : Nat) : m ^ k ≤ 7 ^ k := by
  induction k with
  | zero => simp
  | succ k ih =>
    rw [Int.pow_succ, Int.pow_succ]
    exact Int.mul_le_mul ih m1 (by omega) (Int.le_of_lt (pow_pos' (by omega) k))
theorem pow_mono7 {k j : Nat} (h : k ≤ j) : (7 : Int) ^ k ≤ 7 ^ j := by
  have := Nat.pow_le_pow_right (n := 7) (by omega) h
  exact_mod_cast this
theorem max_lng {p : List (List Int)} {k : Int} (h1 : k ∈ (0 : Int) :: p.map (fun r => (r.length : Int))) (h2 : ∀ y ∈ (0 : Int) :: p.map (fun r => (r.length : Int)), y ≤ k) : k = (lng p : Int) := by
  have up : (lng p : Int) ≤ k := by
    clear h1
    induction p with
    | nil => exact h2 0 (by simp)
    | cons r p ih =>
      have a := ih fun y hy => h2 y (by
        rcases List.mem_cons.mp hy with hy | hy
        · simp [hy]
        · rw [List.map_cons]; exact List.mem_cons_of_mem _ (List.mem_cons_of_mem _ hy))
      have b := h2 r.length (by simp)
      rw [lng]
      omega
  rcases List.mem_cons.mp h1 with h | h
  · omega
  · obtain ⟨r, hr, rfl⟩ := List.mem_map.mp h
    have := lng_le hr
    omega
/-- the loop's step -/
theorem low_step {l Gn M : Nat} {a b N : Int} (m0 : 0 < M) (e : l * Gn = M) (h : Lo a b N (M : Int)) : (l * b.natAbs / Nat.gcd l b.natAbs) * Nat.gcd Gn N.natAbs = M := by
  have sh := (lo_share h (by omega)).1
  have e2 : b.natAbs * Nat.gcd N.natAbs M = M := by
    have := congrArg Int.natAbs sh
    rw [Int.natAbs_mul, Int.natAbs_natCast, Int.natAbs_natCast] at this
    exact this
  have := lcm_step m0 e e2
  have d : Gn ∣ M := ⟨l, by rw [← e, Nat.mul_comm]⟩
  have g : Nat.gcd Gn (Nat.gcd N.natAbs M) = Nat.gcd Gn N.natAbs := by
    rw [Nat.gcd_comm N.natAbs M, ← Nat.gcd_assoc, Nat.gcd_eq_left d]
  rw [g] at this
  exact this
theorem low_end {l Gn M : Nat} {a b N : Int} (m0 : 0 < M) (e : l * Gn = M) (d : Gn ∣ N.natAbs) (h : Lo a b N (M : Int)) : a * ((l : Int) / b) = N / (Gn : Int) := by
  obtain ⟨s1, s2⟩ := lo_share h (by omega)
  have g1 : Gn ∣ M := ⟨l, by rw [← e, Nat.mul_comm]⟩
  have g0 : 0 < Gn := Nat.pos_of_dvd_of_pos g1 m0
  have g2 : Gn ∣ Nat.gcd N.natAbs M := Nat.dvd_gcd d g1
  rw [Int.natAbs_natCast] at s1 s2
  obtain ⟨k, hk⟩ := g2
  rw [hk] at s1 s2
  have b0 := h.1
  have gi : (Gn : Int) ≠ 0 := by omega
  have el : (l : Int) = b * k := by
    have : (l : Int) * Gn = (b * k) * Gn := by
      rw [show (l : Int) * Gn = ((l * Gn : Nat) : Int) from by simp, e, ← s1]
      rw [Int.natCast_mul]
      grind
    exact Int.eq_of_mul_eq_mul_right gi this
  rw [el, Int.mul_ediv_cancel_left _ (by omega), ← s2, Int.natCast_mul]
  rw [show a * ((Gn : Int) * (k : Int)) = (Gn : Int) * (a * k) from by grind, Int.mul_ediv_cancel_left _ gi]
theorem mm_pos {m : Int} (h : 0 < m) (k : Nat) : 0 < mm m k := Nat.pow_pos (by omega)
theorem mm_le {m : Int} (h : m.natAbs ≤ 7) {k : Nat} (hk : k ≤ 7) : mm m k ≤ 823543 := by
  have : mm m k ≤ 7 ^ 7 := Nat.le_trans (Nat.pow_le_pow_left h k) (Nat.pow_le_pow_right (by omega) hk)
  exact this
theorem G_take {n m : Int} {p : List (List Int)} {M i : Nat} {r : List Int} (h : p[i]? = some r) : G M ((nums n m p).take (i + 1)) = Nat.gcd (G M ((nums n m p).take i)) (numAt n m (lng p) r).natAbs := by
  have e : (nums n m p)[i]? = some (numAt n m (lng p) r) := by unfold nums; rw [List.getElem?_map, h]; rfl
  rw [List.take_add_one, e]
  exact G_append _ _ _
theorem G_split : ∀ (l k : List Int) (M : Nat), G M (l ++ k) = G (G M l) k
  | [], k, M => rfl
  | x :: l, k, M => G_split l k _
theorem G_early {l : List Int} {i : Nat} (h : G 0 (l.take i) = 1) : G 0 l = 1 := by
  have e : l = l.take i ++ l.drop i := (List.take_append_drop i l).symm
  rw [e, G_split, h]
  exact G_one _
theorem max_fold : ∀ (p : List (List Int)) (a : Int), 0 ≤ a → (p.map fun r => ((r.length : Nat) : Int)).foldl max a = max a (lng p : Int)
  | [], a, h => by
    show a = max a (((0 : Nat)) : Int)
    omega
  | r :: p, a, h => by
    rw [List.map_cons, List.foldl_cons, max_fold p _ (by omega), lng]
    omega
end K22

set_option Elab.async false
set_option linter.all false
set_option maxRecDepth 100000
set_option maxHeartbeats 4000000
local macro_rules | `(tactic| walk_at "rd") => `(tactic| dsimp only [L2.tSeq, L2.tNext, L2.tRet, L2.tRetN, L2.tAsg, L2.gName, L2.tIfS, L2.tDrop, L2.tCons, L2.tNil, L2.tC, L2.tVar, L2.tCB, L2.tAndV, L2.tOrV, L2.tNotV, L2.tB, L2.tTest, L2.tOp, L2.tUn, L2.tNot, L2.tAnd, L2.tOr, L2.tIf, L2.tCall, L2.tTup, L2.tLst, L2.tNotT, L2.tYes])
namespace K22
open PySem PySem.Spec PyProof.Rows L2 Tw
def top (i : Nat) : Stmt := PySem.Challenge.pw_twoletters_k22_whole_sums_products_value.main.body.getD i (.Pass ⟨0, 0, 0, 0⟩)
abbrev sWhole : Stmt := top 2
abbrev sIsFr : Stmt := top 3
abbrev sFracOf : Stmt := top 4
abbrev sPower : Stmt := top 5
abbrev sFSum : Stmt := top 6
abbrev sFProd : Stmt := top 7
abbrev sTrimmed : Stmt := top 10
abbrev sPRSum : Stmt := top 11
abbrev sPRScaled : Stmt := top 12
abbrev sWidth : Stmt := top 13
abbrev sPacked : Stmt := top 14
abbrev sUnpacked : Stmt := top 15
abbrev sPRTimes : Stmt := top 16
abbrev sScaled : Stmt := top 17
abbrev sRValue : Stmt := top 18
abbrev sPTrim : Stmt := top 24
abbrev sPPlus : Stmt := top 25
abbrev sPPTimes : Stmt := top 26
abbrev sPExch : Stmt := top 27
abbrev sPDer : Stmt := top 28
abbrev sPValue : Stmt := top 29
abbrev sRow : Stmt := top 31
abbrev sPoly : Stmt := top 33
abbrev sChkP : Stmt := top 34
abbrev sChkTwo : Stmt := top 35
abbrev sChkF : Stmt := top 36
abbrev sApSum : Stmt := top 37
abbrev sApProd : Stmt := top 38
abbrev sApExch : Stmt := top 39
abbrev sApDer : Stmt := top 40
abbrev sApVal : Stmt := top 41
abbrev sWell : Stmt := top 43
abbrev sDraw : Stmt := top 44
abbrev sCommon : Stmt := top 45
abbrev sLean : Stmt := top 46
abbrev sAdd : Stmt := top 47
abbrev sMul : Stmt := top 48
abbrev sTrim : Stmt := top 49
abbrev sLScaled : Stmt := top 50
abbrev sRSum : Stmt := top 51
abbrev sRTimes : Stmt := top 52
abbrev sPSum : Stmt := top 53
abbrev sPTimes : Stmt := top 54
abbrev sNum : Stmt := top 55
abbrev sLRow : Stmt := top 56
abbrev sLPoly : Stmt := top 57
abbrev sAt : Stmt := top 58
abbrev sSmall : Stmt := top 59
abbrev sTurned : Stmt := top 60
abbrev sLed : Stmt := top 61
abbrev sWorth : Stmt := top 62
abbrev sAtAll : Stmt := top 63
abbrev sRight : Stmt := top 64
abbrev sLaw : Stmt := top 65
/-- built-in names that the text gives no other meaning -/
structure Nb (mg : Str → Option Value) : Prop where
  isi : mg "isinstance" = none
  int : mg "int" = none
  bool : mg "bool" = none
  tup : mg "tuple" = none
  all : mg "all" = none
  len : mg "len" = none
  lst : mg "list" = none
  dvm : mg "divmod" = none
  rng : mg "range" = none
  max : mg "max" = none
  min : mg "min" = none
  abs : mg "abs" = none
  repr : mg "repr" = none
  rev : mg "reversed" = none
  gc : mg "gcd" = some (.builtin "math.gcd")

/-! ### what the answers are -/
def wholeB (d : PyData) : Bool := isIntD d && !isBoolD d
def lastD (ds : List PyData) (d : PyData) : Bool := match ds.getLast? with
  | some e => !(PyData.eqv e d)
  | none => true
def rowB : PyData → Bool
  | .tuple ds => (ds.map wholeB).all id && lastD ds (.int 0)
  | _ => false
def polyB : PyData → Bool
  | .tuple ds => (ds.map rowB).all id && lastD ds (.tuple [])
  | _ => false
/-- the answer is f of the datum -/
def spB (f : PyData → Bool) : Sp := fun vs H Q _ => ∃ a v d m, vs = [v] ∧ Da a H v d ∧ Sm m 1000 d ∧ ∀ H', Same H H' → Q (.bl (f d)) H'

theorem getLast_get {α : Type} {xs : List α} {x : α} (h : xs.getLast? = some x) : xs[xs.length - 1]? = some x := by
  rw [← List.getLast?_eq_getElem?]; exact h
theorem atI_end {α : Type} {xs : List α} {x : α} (h : xs.getLast? = some x) : atI xs (-1) = some x := by
  obtain ⟨ys, rfl⟩ := List.getLast?_eq_some_iff.mp h
  exact atI_last _ _
theorem last_both {a : Addr} {H : Hp} {xs : List V} {ds : List PyData} (h : DaAll a H xs ds) (ne : ds ≠ []) : ∃ x d, xs.getLast? = some x ∧ ds.getLast? = some d ∧ d ∈ ds ∧ Da a H x d := by
  have l := h.len
  have hp : 0 < ds.length := List.length_pos_iff.mpr ne
  have hx : xs.length - 1 < xs.length := by omega
  obtain ⟨d, e1, e2⟩ := h.get (List.getElem?_eq_getElem hx)
  refine ⟨xs[xs.length - 1], d, ?_, ?_, List.mem_of_getElem? e1, e2⟩
  · rw [List.getLast?_eq_getElem?]; exact List.getElem?_eq_getElem hx
  · rw [List.getLast?_eq_getElem?, ← l]; exact e1
section
variable {P : Program} {w : World} {K : PySem.W.Frag} {mg : Str → Option Value} {base : Heap}
theorem scWhole : FnScope ["value"] ["value"] (defScope sWhole) := ⟨rfl, rfl, rfl, by decide +kernel, rfl, by decide +kernel, by decide +kernel⟩
theorem ok_whole (D : Def K mg "is_whole" sWhole ["value"]) (nb : Nb mg) : Cal P w K mg base "is_whole" 1 ["value"] (spB wholeB) := by
  refine D.ok scWhole (fun vs H Q E h => ?_) (fun f cdv A out s H vs Q E hr h => ?_)
  · obtain ⟨a, v, d, m, rfl, _⟩ := h; rfl
  obtain ⟨a, v, d, m, rfl, hd, hs, q⟩ := h
  refine ⟨_, pss_one (ps_ret (pe_and (pe_callB (id := "isinstance") (r := rIsi K) call_isi (by rfl) nb.isi (by decide +kernel) (pa_cons (pv 0) (pa_cons (pe_bltn (v := .ty "int") (by rfl) nb.int (by decide +kernel) rfl) pa_nil)))
    (pe_one (pe_not (pe_callB (id := "isinstance") (r := rIsi K) call_isi (by rfl) nb.isi (by decide +kernel) (pa_cons (pv 0) (pa_cons (pe_bltn (v := .ty "bool") (by rfl) nb.bool (by decide +kernel) rfl) pa_nil))))))), ?_⟩
  walk_at "rd"
  refine ⟨v, rfl, isi hd (isi_int d) ⟨isIntD d, rfl, ?_⟩⟩
  have q' := q H (Same.refl H)
  unfold wholeB at q'
  cases hi : isIntD d with
  | false => rw [hi] at q'; exact iteF q'
  | true =>
    rw [hi] at q'
    refine iteT ⟨v, rfl, isi hd (isi_bool d) ⟨isBoolD d, rfl, q'⟩⟩

theorem tup_of {a : Addr} {H : Hp} {v : V} {d : PyData} (h : Da a H v d) (t : isTupD d = true) : ∃ p xs ds, v = .ref p ∧ d = .tuple ds ∧ p ≠ a ∧ H p = some (.tup xs) ∧ DaAll a H xs ds := by
  cases h with
  | tup n e r => exact ⟨_, _, _, rfl, rfl, n, e, r⟩
  | _ => exact absurd t (by simp [isTupD])
theorem int_of {a : Addr} {H : Hp} {v : V} {d : PyData} (h : Da a H v d) (t : wholeB d = true) : ∃ i, v = .int i ∧ d = .int i := by
  cases h with
  | int i => exact ⟨i, rfl, rfl⟩
  | _ => exact absurd t (by simp [wholeB, isIntD, isBoolD])
theorem not_tup {d : PyData} (h : isTupD d = false) : rowB d = false ∧ polyB d = false := by
  cases d <;> first | exact ⟨rfl, rfl⟩ | cases h
theorem row_tup {d : PyData} (h : rowB d = true) : isTupD d = true := by
  cases d <;> first | rfl | cases h
theorem all_mem {f : PyData → Bool} {ds : List PyData} {d : PyData} (h : (ds.map f).all id = true) (m : d ∈ ds) : f d = true := by
  rw [List.all_eq_true] at h
  exact h (f d) (List.mem_map_of_mem m)
theorem empty_iff {a : Addr} {H : Hp} {xs : List V} {ds : List PyData} (h : DaAll a H xs ds) : xs.isEmpty = ds.isEmpty := by
  cases h <;> rfl
theorem wipe1 (σ : L2.St) (j : Nat) (x : V) : wipe ((wipe σ [j]).set j (some x)) [j] = wipe σ [j] := by
  show ((σ.set j none).set j (some x)).set j none = σ.set j none
  rw [List.set_set, List.set_set]

theorem scRow : FnScope ["value", "number"] ["value"] (defScope sRow) := ⟨rfl, rfl, rfl, by decide +kernel, rfl, by decide +kernel, by decide +kernel⟩
theorem ok_row (D : Def K mg "is_row" sRow ["value"]) (nb : Nb mg) (c1 : Cal P w K mg base "is_whole" 1 ["value"] (spB wholeB)) : Cal P w K mg base "is_row" 2 ["value"] (spB rowB) := by
  refine D.ok scRow (fun vs H Q E h => ?_) (fun f cdv A out s H vs Q E hr h => ?_)
  · obtain ⟨a, v, d, m, rfl, _⟩ := h; rfl
  obtain ⟨a, v, d, m, rfl, hd, hs, q⟩ := h
  refine ⟨_, pss_cons (ps_if (PW.pt (pw_or (pt_not (pt_val (pe_callB (id := "isinstance") (r := rIsi K) call_isi (by rfl) nb.isi (by decide +kernel) (pa_cons (pv 0) (pa_cons (pe_bltn (v := .ty "tuple") (by rfl) nb.tup (by decide +kernel) rfl) pa_nil)))))
      (pw_or1 (pt_not (pt_val (pe_callB (cr_all rfl) (by rfl) nb.all (by decide +kernel) (pa_cons
        (pe_lc (own := [("number", 1)]) (g := gName 1) (tt := tYes) rfl scRow.nd (pi_tup (pv 0)) (blkOk_by (N := ["value", "number"]) (sc := defScope sRow) (by decide +kernel))
          (fun _ _ _ _ _ => pg_name (i := 1) scRow.nd rfl (Or.inl rfl)) (fun _ _ _ _ _ => pts_nil) (fun _ _ _ _ _ => pe_cal c1 hr (Nat.le_refl 1) (by rfl) (pa_cons (pv 1) pa_nil))) pa_nil)))))))
      (pss_one (ps_ret pe_bl)) pss_nil)
    (pss_one (ps_ret (pe_or (pe_notT (pv 0)) (pe_one (pe_cmpR op_ne (pe_ix ix_tup (pv 0) (pe_un un_neg pe_int) (fun _ _ => rfl)) pe_int (nomark _)))))), ?_⟩
  walk_at "rd"
  refine ⟨v, rfl, isi hd (isi_tup d) ⟨isTupD d, rfl, ?_⟩⟩
  cases ht : isTupD d with
  | false =>
    have q' := q H (Same.refl H)
    rw [(not_tup ht).1] at q'
    exact iteT (iteT q')
  | true =>
    obtain ⟨p, xs, ds, rfl, rfl, np, hp, hx⟩ := tup_of hd ht
    have hn : xs.length < 100000 := by rw [hx.len]; have := hs.len; omega
    refine iteF (lc_mapT (fun d => V.bl (wholeB d)) rfl hp hx hn (wipe1 _ 1) (fun x d H1 hm s1 dx R k => ?_) fun L H1 s1 nL hL => ?_)
    · exact ⟨x, rfl, a, x, d, _, rfl, dx, hs.mem hm, k⟩
    refine ⟨L, ds.map wholeB, rfl, SqL.of (by rw [List.map_map]; exact hL), _, rfl, ?_⟩
    have q' : Q (.bl ((ds.map wholeB).all id && lastD ds (.int 0))) H1 := q H1 s1
    cases hw : (ds.map wholeB).all id with
    | false => rw [hw] at q'; exact iteT q'
    | true =>
      rw [hw] at q'
      refine iteF ⟨.ref p, rfl, _, .inr (.inl ⟨xs, SqT.of (s1 _ _ hp), rfl⟩), _, rfl, ?_⟩
      rw [empty_iff hx, Bool.not_not]
      cases hds : ds with
      | nil => subst hds; exact iteT q'
      | cons d0 dr =>
        have ne : ds ≠ [] := by rw [hds]; simp
        obtain ⟨x, dl, e1, e2, e3, e4⟩ := last_both hx ne
        obtain ⟨i, rfl, rfl⟩ := int_of e4 (all_mem hw e3)
        refine iteF ⟨.ref p, rfl, 1, rfl, p, xs, -1, .int i, rfl, rfl, SqT.of (s1 _ _ hp), atI_end e1, rfl, ?_⟩
        unfold lastD at q'
        rw [e2] at q'
        rw [dec_int]
        simpa [PyData.eqv] using q'

/-- not value or value[-1] != 0, both ways of saying it: what is asked of the last number -/
theorem end_int {a p : Addr} {H : Hp} {Q : VK} {xs : List V} {ds : List PyData} (hx : DaAll a H xs ds) (hp : H p = some (.tup xs)) (ne : ds ≠ []) (hw : (ds.map wholeB).all id = true)
    (q : Q (.bl (lastD ds (.int 0))) H) : rIxT K (.ref p) (.int (-1)) H fun x H1 => rNe x (.int 0) H1 Q := by
  obtain ⟨x, dl, e1, e2, e3, e4⟩ := last_both hx ne
  obtain ⟨i, rfl, rfl⟩ := int_of e4 (all_mem hw e3)
  refine ⟨p, xs, -1, .int i, rfl, rfl, SqT.of hp, atI_end e1, rfl, ?_⟩
  unfold lastD at q
  rw [e2] at q
  rw [dec_int]
  simpa [PyData.eqv] using q

/-- .. of the last row -/
theorem end_row {a p : Addr} {H : Hp} {Q : VK} {xs : List V} {ds : List PyData} (hx : DaAll a H xs ds) (hp : H p = some (.tup xs)) (ne : ds ≠ []) (hw : (ds.map rowB).all id = true)
    (q : ∀ H', Same H H' → Q (.bl (lastD ds (.tuple []))) H') :
    rIxT K (.ref p) (.int (-1)) H fun x H1 => ([] : List V).length ≤ sizeLine ∧ ∀ t, H1 t = none → rT0 true K x (.ref t) (upd H1 t (.tup [])) Q := by
  obtain ⟨x, dl, e1, e2, e3, e4⟩ := last_both hx ne
  obtain ⟨p2, xs2, ds2, rfl, rfl, np2, hp2, hx2⟩ := tup_of e4 (row_tup (all_mem hw e3))
  refine ⟨p, xs, -1, .ref p2, rfl, rfl, SqT.of hp, atI_end e1, sz (by decide), fun t nt => ?_⟩
  have s2 := same_new (o := .tup []) nt
  refine ⟨p2, t, xs2, [], rfl, rfl, SqT.of (s2 _ _ hp2), SqT.of upd_same, rfl, ?_⟩
  have q' := q _ s2
  unfold lastD at q'
  rw [e2] at q'
  cases hx2 with
  | nil => simpa [PyData.eqv, PyData.eqvAll] using q'
  | cons _ _ => simpa [PyData.eqv, PyData.eqvAll] using q'
theorem scPoly : FnScope ["value", "row"] ["value"] (defScope sPoly) := ⟨rfl, rfl, rfl, by decide +kernel, rfl, by decide +kernel, by decide +kernel⟩
theorem ok_poly (D : Def K mg "is_poly" sPoly ["value"]) (nb : Nb mg) (c1 : Cal P w K mg base "is_row" 2 ["value"] (spB rowB)) : Cal P w K mg base "is_poly" 3 ["value"] (spB polyB) := by
  refine D.ok scPoly (fun vs H Q E h => ?_) (fun f cdv A out s H vs Q E hr h => ?_)
  · obtain ⟨a, v, d, m, rfl, _⟩ := h; rfl
  obtain ⟨a, v, d, m, rfl, hd, hs, q⟩ := h
  refine ⟨_, pss_cons (ps_if (PW.pt (pw_or (pt_not (pt_val (pe_callB (id := "isinstance") (r := rIsi K) call_isi (by rfl) nb.isi (by decide +kernel) (pa_cons (pv 0) (pa_cons (pe_bltn (v := .ty "tuple") (by rfl) nb.tup (by decide +kernel) rfl) pa_nil)))))
      (pw_or1 (pt_not (pt_val (pe_callB (cr_all rfl) (by rfl) nb.all (by decide +kernel) (pa_cons
        (pe_lc (own := [("row", 1)]) (g := gName 1) (tt := tYes) rfl scPoly.nd (pi_tup (pv 0)) (blkOk_by (N := ["value", "row"]) (sc := defScope sPoly) (by decide +kernel))
          (fun _ _ _ _ _ => pg_name (i := 1) scPoly.nd rfl (Or.inl rfl)) (fun _ _ _ _ _ => pts_nil) (fun _ _ _ _ _ => pe_cal c1 hr (Nat.le_refl 2) (by rfl) (pa_cons (pv 1) pa_nil))) pa_nil)))))))
      (pss_one (ps_ret pe_bl)) pss_nil)
    (pss_one (ps_ret (pe_or (pe_notT (pv 0)) (pe_one (pe_cmpR (op_neT0 hr.units) (pe_ix ix_tup (pv 0) (pe_un un_neg pe_int) (fun _ _ => rfl)) (pe_tup pa_nil) (nomark _)))))), ?_⟩
  walk_at "rd"
  refine ⟨v, rfl, isi hd (isi_tup d) ⟨isTupD d, rfl, ?_⟩⟩
  cases ht : isTupD d with
  | false =>
    have q' := q H (Same.refl H)
    rw [(not_tup ht).2] at q'
    exact iteT (iteT q')
  | true =>
    obtain ⟨p, xs, ds, rfl, rfl, np, hp, hx⟩ := tup_of hd ht
    have hn : xs.length < 100000 := by rw [hx.len]; have := hs.len; omega
    refine iteF (lc_mapT (fun d => V.bl (rowB d)) rfl hp hx hn (wipe1 _ 1) (fun x d H1 hm s1 dx R k => ?_) fun L H1 s1 nL hL => ?_)
    · exact ⟨x, rfl, a, x, d, _, rfl, dx, hs.mem hm, k⟩
    refine ⟨L, ds.map rowB, rfl, SqL.of (by rw [List.map_map]; exact hL), _, rfl, ?_⟩
    have q' : ∀ H', Same H H' → Q (.bl ((ds.map rowB).all id && lastD ds (.tuple []))) H' := q
    cases hw : (ds.map rowB).all id with
    | false => rw [hw] at q'; exact iteT (q' _ s1)
    | true =>
      rw [hw] at q'
      refine iteF ⟨.ref p, rfl, _, .inr (.inl ⟨xs, SqT.of (s1 _ _ hp), rfl⟩), _, rfl, ?_⟩
      rw [empty_iff hx, Bool.not_not]
      cases hds : ds with
      | nil => subst hds; exact iteT (q' _ s1)
      | cons d0 dr =>
        have ne : ds ≠ [] := by rw [hds]; simp
        exact iteF ⟨.ref p, rfl, 1, rfl, end_row (hx.same s1) (s1 _ _ hp) ne hw fun H' s2 => q' _ (s1.trans s2)⟩
end
end K22

set_option Elab.async false
set_option linter.all false
set_option maxRecDepth 100000
set_option maxHeartbeats 4000000
local macro_rules | `(tactic| walk_at "rd") => `(tactic| dsimp only [L2.tSeq, L2.tNext, L2.tRet, L2.tRetN, L2.tAsg, L2.gName, L2.tIfS, L2.tDrop, L2.tCons, L2.tNil, L2.tC, L2.tVar, L2.tCB, L2.tAndV, L2.tOrV, L2.tNotV, L2.tB, L2.tTest, L2.tOp, L2.tUn, L2.tNot, L2.tAnd, L2.tOr, L2.tIf, L2.tCall, L2.tTup, L2.tLst, L2.tNotT, L2.tYes, L2.gTup, L2.gCons, L2.gNil, L2.gSub])
namespace K22
open PySem PySem.Spec PyProof.Rows L2 Tw
/-- an int from 0 on below n; the well is turned -/
def spDraw : Sp := fun vs H Q _ => ∃ a n, vs = [.ref a, .int n] ∧ We a H ∧ 0 < n ∧ n < 1073741824 ∧ ∀ d H', 0 ≤ d → d < n → Kp a H H' → We a H' → Q (.int d) H'
theorem kp_well {a : Addr} {H H' : Hp} {o : HO} (h : Kp a H H') : Kp a H (upd H' a o) := fun b u n e => by
  rw [upd_ne n]; exact h b u n e
section
variable {P : Program} {w : World} {K : PySem.W.Frag} {mg : Str → Option Value} {base : Heap}
theorem scDraw : FnScope ["_law_well_here", "_law_many", "_law_figure", "_law_seed"] ["_law_well_here", "_law_many"] (defScope sDraw) := ⟨rfl, rfl, rfl, by decide +kernel, rfl, by decide +kernel, by decide +kernel⟩
theorem ok_draw (D : Def K mg "_law_draw" sDraw ["_law_well_here", "_law_many"]) (nb : Nb mg) : Cal P w K mg base "_law_draw" 1 ["_law_well_here", "_law_many"] spDraw := by
  refine D.ok scDraw (fun vs H Q E h => ?_) (fun f cdv A out s H vs Q E hr h => ?_)
  · obtain ⟨a, n, rfl, _⟩ := h; rfl
  obtain ⟨a, n, rfl, ⟨x, y, z, hw⟩, n0, n1, q⟩ := h
  refine ⟨_, pss_cons (ps_if (pt_cmpR op_gt (pe_ix ix_list (pv 0) pe_int (fun _ _ => rfl)) pe_int (nomark _))
      (pss_cons (ps_asg (pe_callB (id := "divmod") call_divmod (by rfl) nb.dvm (by decide +kernel) (pa_cons (pe_ix ix_list (pv 0) pe_int (fun _ _ => rfl)) (pa_cons (pv 1) pa_nil)))
          (pg_tup rfl (pgs_cons (pg_sub (pv 0) pe_int set_list) (pgs_cons (pg_name (i := 2) scDraw.nd rfl (Or.inl rfl)) pgs_nil))))
        (pss_one (ps_ret (pv 2)))) pss_nil)
    (pss_cons (ps_asg (pe_op op_add (pe_ix ix_list (pv 0) pe_int (fun _ _ => rfl)) pe_int) (pg_sub (pv 0) pe_int set_list))
    (pss_cons (ps_set (i := 3) scDraw.nd rfl (Or.inl rfl) (pe_op op_mod (pe_callTy (T := "int") call_int1 (by rfl) nb.int (by decide +kernel)
        (pa_cons (pe_op op_add (pe_ix ix_list (pv 0) pe_int (fun _ _ => rfl)) (pe_op op_mul pe_int (pe_ix ix_list (pv 0) pe_int (fun _ _ => rfl)))) pa_nil)) pe_int))
    (pss_cons (ps_asg (pe_op op_mod (pe_callTy (T := "int") call_int1 (by rfl) nb.int (by decide +kernel)
        (pa_cons (pe_op op_add (pe_op op_mul (pv 3) (pe_op op_add (pe_op op_mod (pe_callTy (T := "int") call_int1 (by rfl) nb.int (by decide +kernel) (pa_cons (pv 3) pa_nil)) pe_int) pe_int))
          (pe_op op_mul pe_int (pe_ix ix_list (pv 0) pe_int (fun _ _ => rfl)))) pa_nil)) pe_int) (pg_sub (pv 0) pe_int set_list))
    (pss_one (ps_ret (pe_op op_mod (pe_callTy (T := "int") call_int1 (by rfl) nb.int (by decide +kernel) (pa_cons (pe_op op_fdiv (pe_ix ix_list (pv 0) pe_int (fun _ _ => rfl)) pe_int) pa_nil)) (pv 1))))))), ?_⟩
  walk_at "rd"
  refine ⟨.ref a, rfl, a, _, 0, .int x, rfl, rfl, SqL.of hw, rfl, x, 0, rfl, rfl, _, rfl, ite2 (fun c => ?_) (fun c => ?_)⟩
  · refine ⟨.ref a, rfl, a, _, 0, .int x, rfl, rfl, SqL.of hw, rfl, .int n, rfl, x, n, rfl, ⟨n0, n1⟩, fun t nt => ?_⟩
    have ta : t ≠ a := (show We a H from ⟨x, y, z, hw⟩).ne nt
    have h1 : upd H t (.tup [.int (x / n), .int (x % n)]) a = some (.lst [.int x, .int y, .int z]) := by rw [upd_ne ta.symm]; exact hw
    refine ⟨t, _, rfl, SqT.of upd_same, rfl, .int (x / n), _, rfl, .ref a, rfl, a, _, 0, 0, rfl, rfl, h1, rfl, .int (x % n), _, rfl, ⟨rfl, .int (x % n), rfl, ?_⟩⟩
    refine q _ _ (Int.emod_nonneg _ (by omega)) (Int.emod_lt_of_pos _ n0) (kp_well (kp_new nt)) ⟨x / n, y, z, upd_same⟩
  · refine ⟨.ref a, rfl, a, _, 2, .int z, rfl, rfl, SqL.of hw, rfl, z, 1, rfl, rfl, .ref a, rfl, a, _, 2, 2, rfl, rfl, hw, rfl, ?_⟩
    generalize hH1 : upd H a _ = H1
    have w1 : H1 a = some (.lst [.int x, .int y, .int (z + 1)]) := by rw [← hH1]; exact upd_same
    have k1 : Kp a H H1 := by rw [← hH1]; exact kp_well (Kp.refl a H)
    refine ⟨.ref a, rfl, a, _, 1, .int y, rfl, rfl, SqL.of w1, rfl, .ref a, rfl, a, _, 2, .int (z + 1), rfl, rfl, SqL.of w1, rfl, _, _, rfl, rfl, .inl ⟨by decide, by decide⟩, _, _, rfl, rfl, .inl ⟨_, rfl, _, _, rfl, rfl, (by show (0 : Int) < _; decide), ?_⟩⟩
    walk_at "rd"
    generalize hs : (_ : Int) % 2147483563 = sd
    have s0 : 0 ≤ sd := by rw [← hs]; exact Int.emod_nonneg _ (by decide)
    have s1 : sd < 2147483563 := by rw [← hs]; exact Int.emod_lt_of_pos _ (by decide)
    refine ⟨.int sd, rfl, .int sd, rfl, .inl ⟨sd, rfl, _, _, rfl, rfl, (by show (0 : Int) < _; decide), _, _, rfl, rfl, _, _, rfl, rfl, .inl ⟨by omega, by omega⟩, .ref a, rfl, a, _, 2, .int (z + 1), rfl, rfl, SqL.of w1, rfl, _, _, rfl, rfl, .inl ⟨by decide, by decide⟩, _, _, rfl, rfl, .inl ⟨_, rfl, _, _, rfl, rfl, (by show (0 : Int) < _; decide), ?_⟩⟩⟩
    walk_at "rd"
    refine ⟨.ref a, rfl, a, _, 1, 1, rfl, rfl, w1, rfl, ?_⟩
    generalize hy : (_ : Int) % 2147483563 = y2
    generalize hH2 : upd H1 a _ = H2
    have w2 : H2 a = some (.lst [.int x, .int y2, .int (z + 1)]) := by rw [← hH2]; exact upd_same
    have k2 : Kp a H H2 := by rw [← hH2]; exact kp_well k1
    refine ⟨.ref a, rfl, a, _, 1, .int y2, rfl, rfl, SqL.of w2, rfl, _, _, rfl, rfl, ⟨by decide, by decide⟩, .inl ⟨_, rfl, .int n, rfl, _, _, rfl, rfl, n0, ?_⟩⟩
    exact q _ _ (Int.emod_nonneg _ (by omega)) (Int.emod_lt_of_pos _ n0) k2 ⟨x, y2, z + 1, w2⟩

end
end K22

set_option Elab.async false
set_option linter.all false
set_option maxRecDepth 100000
set_option maxHeartbeats 4000000
local macro_rules | `(tactic| walk_at "rd") => `(tactic| dsimp only [L2.tSeq, L2.tNext, L2.tRet, L2.tRetN, L2.tAsg, L2.gName, L2.tIfS, L2.tDrop, L2.tCons, L2.tNil, L2.tC, L2.tVar, L2.tCB, L2.tAndV, L2.tOrV, L2.tNotV, L2.tB, L2.tTest, L2.tOp, L2.tUn, L2.tNot, L2.tAnd, L2.tOr, L2.tIf, L2.tCall, L2.tTup, L2.tLst, L2.tNotT, L2.tYes, L2.gTup, L2.gCons, L2.gNil, L2.gSub, L2.tBM0, L2.tBM, L2.tWhile, L2.tFor, L2.iRng1])
namespace K22
open PySem PySem.Spec PyProof.Rows L2 Tw
/-- data that may be compared, at most n deep -/
def Nice (n : Nat) (d : PyData) : Prop := d.canLay0 = true ∧ d.depth ≤ n
theorem canAll {ds : List PyData} (h : ∀ d ∈ ds, d.canLay0 = true) : PyData.canLayAll0 ds = true := by
  induction ds with
  | nil => simp [PyData.canLayAll0]
  | cons d ds ih => simp only [PyData.canLayAll0, h d (by simp), ih fun e he => h e (by simp [he]), Bool.and_self]
theorem depAll {n : Nat} {ds : List PyData} (h : ∀ d ∈ ds, d.depth ≤ n) : PyData.depthAll ds ≤ n := by
  induction ds with
  | nil => simp [PyData.depthAll]
  | cons d ds ih =>
    simp only [PyData.depthAll]
    exact Nat.max_le.mpr ⟨h d (by simp), ih fun e he => h e (by simp [he])⟩
theorem nice_tup {n : Nat} {ds : List PyData} (h : ∀ d ∈ ds, Nice n d) : Nice (n + 1) (.tuple ds) :=
  ⟨by simp only [PyData.canLay0]; exact canAll fun d hd => (h d hd).1, by simp only [PyData.depth]; exact Nat.succ_le_succ (depAll fun d hd => (h d hd).2)⟩
theorem nice_lst {n : Nat} {ds : List PyData} (h : ∀ d ∈ ds, Nice n d) : Nice (n + 1) (.list ds) :=
  ⟨by simp only [PyData.canLay0]; exact canAll fun d hd => (h d hd).1, by simp only [PyData.depth]; exact Nat.succ_le_succ (depAll fun d hd => (h d hd).2)⟩
theorem nice_int (i : Int) : Nice 0 (.int i) := ⟨by simp [PyData.canLay0], by simp [PyData.depth]⟩
theorem Nice.up {n m : Nat} {d : PyData} (h : Nice n d) (l : n ≤ m) : Nice m d := ⟨h.1, Nat.le_trans h.2 l⟩
theorem Nice.shaped {n : Nat} {d : PyData} (h : Nice n d) (l : n ≤ 64) : SeqAt.shaped d = true := by
  unfold SeqAt.shaped
  rw [h.1, decide_eq_true (Nat.le_trans h.2 l)]; rfl
/-- a first part of the list, as a tuple -/
def zD (d : PyData) : Bool := PyData.eqv d (.int 0) || PyData.eqv d (.tuple [])
def spTrim : Sp := fun vs H Q _ => ∃ a p xs ds, vs = [.ref p] ∧ H p = some (.lst xs) ∧ DaAll a H xs ds ∧ (∀ d ∈ ds, Nice 5 d) ∧
  ∀ (k : Nat) q H', k ≤ xs.length → (∀ (i : Nat) d, k ≤ i → ds[i]? = some d → zD d = true) → (k = 0 ∨ ∃ d, ds[k - 1]? = some d ∧ zD d = false) → Same H H' → H q = none → H' q = some (.tup (xs.take k)) → Q (.ref q) H'
section
variable {P : Program} {w : World} {K : PySem.W.Frag} {mg : Str → Option Value} {base : Heap}
theorem take_cases {xs : List V} {m : Nat} (h : m ≤ xs.length) : xs.take m = [] ∧ m = 0 ∨ ∃ j y, m = j + 1 ∧ xs[j]? = some y ∧ xs.take m = xs.take j ++ [y] := by
  cases m with
  | zero => exact .inl ⟨rfl, rfl⟩
  | succ j =>
    have hj : j < xs.length := by omega
    refine .inr ⟨j, xs[j], rfl, List.getElem?_eq_getElem hj, ?_⟩
    rw [List.take_add_one, List.getElem?_eq_getElem hj]; rfl
theorem scTrim : FnScope ["_law_some", "_law_made"] ["_law_some"] (defScope sTrim) := ⟨rfl, rfl, rfl, by decide +kernel, rfl, by decide +kernel, by decide +kernel⟩
theorem ok_trim (D : Def K mg "_law_trim" sTrim ["_law_some"]) (nb : Nb mg) : Cal P w K mg base "_law_trim" 1 ["_law_some"] spTrim := by
  refine D.ok scTrim (fun vs H Q E h => ?_) (fun f cdv A out s H vs Q E hr h => ?_)
  · obtain ⟨a, p, xs, ds, rfl, _⟩ := h; rfl
  obtain ⟨a, p, xs, ds, rfl, hp, hd, hn, q⟩ := h
  refine ⟨_, pss_cons (ps_set (i := 1) scTrim.nd rfl (Or.inl rfl) (pe_callTy (T := "list") call_list_of (by rfl) nb.lst (by decide +kernel) (pa_cons (pv 0) pa_nil)))
    (pss_cons (ps_while PassesOwn.never (PW.pt (pw_and (pt_cmpR (op_neD hr.units) (pv 1) (pe_lst pa_nil) (nomark _)) (pw_and1 (PW.pt (pw_or
        (pt_cmpR (op_eqD hr.units) (pe_ix ix_list (pv 1) (pe_un un_neg pe_int) (fun _ _ => rfl)) pe_int (nomark _))
        (pw_or1 (pt_cmpR (op_eqD hr.units) (pe_ix ix_list (pv 1) (pe_un un_neg pe_int) (fun _ _ => rfl)) (pe_tup pa_nil) (nomark _))))))))
      (pss_one (ps_expr (pe_bm0 PySem.F.plainAttrs_list PySem.F.slot_list_pop PySem.F.type_list_pop mt_pop (pv 1)))))
    (pss_one (ps_ret (pe_callTy (T := "tuple") call_tuple_of (by rfl) nb.tup (by decide +kernel) (pa_cons (pv 1) pa_nil))))), ?_⟩
  walk_at "rd"
  refine ⟨.ref p, rfl, p, xs, rfl, .inl (SqL.of hp), fun L nL => ?_⟩
  have go : ∀ (m : Nat) (H' : Hp), m ≤ xs.length → (∀ (i : Nat) d, m ≤ i → ds[i]? = some d → zD d = true) → (m = 0 ∨ ∃ d, ds[m - 1]? = some d ∧ zD d = false) → Same H H' → H' L = some (.lst (xs.take m)) → ∀ t, H' t = none → Q (.ref t) (upd H' t (.tup (xs.take m))) := fun m H' hm hz hb s1 hL t nt =>
    q m t _ hm hz hb (s1.trans (same_new nt)) (s1.free nt) upd_same
  have hz0 : ∀ (i : Nat) d, xs.length ≤ i → ds[i]? = some d → zD d = true := by
    intro i d hi e
    rw [hd.len] at hi
    rw [List.getElem?_eq_none hi] at e
    cases e
  refine ⟨fun m σ H' => m ≤ xs.length ∧ (∀ (i : Nat) d, m ≤ i → ds[i]? = some d → zD d = true) ∧ σ = [some (.ref p), some (.ref L)] ∧ Same H H' ∧ H' L = some (.lst (xs.take m)), ⟨xs.length, Nat.le_refl _, hz0, rfl, same_new nL, by rw [upd_same, List.take_length]⟩, ?_⟩
  rintro m σ H1 ⟨hm, hz, rfl, s1, hL⟩
  refine ⟨.ref L, rfl, sz (by decide), fun t nt => ?_⟩
  have s2 := same_new (o := .lst []) nt
  have dL : DaAll a H1 (xs.take m) (ds.take m) := (hd.same s1).take m
  have nA : ∀ d ∈ ds.take m, Nice 5 d := fun d h => hn d (List.mem_of_mem_take h)
  refine ⟨.list (ds.take m), .list [], .lst (SqL.of (s2 _ _ hL)) ((dL.same s2).dp (canAll fun d h => (nA d h).1)), .lst (SqL.of upd_same) .nil, (nice_lst nA).shaped (by decide), by decide, _, rfl, ?_⟩
  rcases take_cases hm with ⟨e0, rfl⟩ | ⟨j, y, rfl, ey, et⟩
  · have ed : ds.take 0 = [] := rfl
    rw [ed]
    refine iteF ?_
    refine ⟨.ref L, rfl, L, xs.take 0, rfl, .inl ⟨SqL.of (s2 _ _ hL), fun t2 nt2 => ?_⟩⟩
    exact go 0 _ hm hz (.inl rfl) (s1.trans s2) (s2 _ _ hL) t2 nt2
  · obtain ⟨d, e1, e2⟩ := hd.get ey
    have em : ds.take (j + 1) = ds.take j ++ [d] := by rw [List.take_add_one, e1]; rfl
    have ne : (!PyData.eqv (.list (ds.take (j + 1))) (.list [])) = true := by
      rw [em]
      cases ds.take j <;> simp [PyData.eqv, PyData.eqvAll]
    rw [ne]
    have nd : Nice 5 d := hn d (List.mem_of_getElem? e1)
    have at1 : atI (xs.take (j + 1)) (-1) = some y := by rw [et]; exact atI_last _ _
    have pop : ∀ H2 : Hp, zD d = true → Same H1 H2 → ∃ N : L2.St → Hp → Prop, (∀ σ' H', N σ' H' → ∃ m', m' < j + 1 ∧ m' ≤ xs.length ∧ (∀ (i : Nat) d, m' ≤ i → ds[i]? = some d → zD d = true) ∧ σ' = [some (.ref p), some (.ref L)] ∧ Same H H' ∧ H' L = some (.lst (xs.take m'))) ∧
        ∃ v, [some (V.ref p), some (V.ref L)][1]? = some (some v) ∧ tyV K "list" v H2 ∧ rPop v [] H2 fun _ H3 => N [some (.ref p), some (.ref L)] H3 := fun H2 zd s3 => by
      refine ⟨fun σ' H' => σ' = [some (.ref p), some (.ref L)] ∧ Same H H' ∧ H' L = some (.lst (xs.take j)), fun σ' H' h => ⟨j, by omega, by omega, fun i e hi he => by
        rcases Nat.lt_or_eq_of_le hi with z | z
        · exact hz i e z he
        · subst z; rw [e1] at he; cases he; exact zd, h.1, h.2.1, h.2.2⟩, .ref L, rfl, .inl ⟨rfl, _, SqL.of (s3 _ _ hL)⟩, ?_⟩
      refine ⟨L, xs.take (j + 1), y, rfl, rfl, s3 _ _ hL, ?_, rfl, same_upd (s1.trans s3) nL, ?_⟩
      · exact getLast_get (by rw [et]; simp)
      · rw [upd_same, et, List.dropLast_concat]
    refine iteT ⟨.ref L, rfl, 1, rfl, L, xs.take (j + 1), -1, y, rfl, rfl, SqL.of (s2 _ _ hL), at1, d, .int 0, (e2.same (s1.trans s2)).dp nd.1, .int 0, nd.shaped (by decide), by decide, _, rfl, ?_⟩
    cases c1 : PyData.eqv d (.int 0) with
    | true => exact iteT (iteT (pop _ (by unfold zD; rw [c1]; rfl) s2))
    | false =>
      refine iteF ⟨.ref L, rfl, 1, rfl, L, xs.take (j + 1), -1, y, rfl, rfl, SqL.of (s2 _ _ hL), at1, sz (by decide), fun t3 nt3 => ?_⟩
      have s3 := s2.trans (same_new (o := .tup []) nt3)
      refine ⟨d, .tuple [], (e2.same (s1.trans s3)).dp nd.1, .tup (SqT.of upd_same) .nil, nd.shaped (by decide), by decide, _, rfl, ?_⟩
      cases c2 : PyData.eqv d (.tuple []) with
      | true => exact iteT (pop _ (by unfold zD; rw [c1, c2]; rfl) s3)
      | false =>
        refine iteF ⟨.ref L, rfl, L, xs.take (j + 1), rfl, .inl ⟨SqL.of (s3 _ _ hL), fun t2 nt2 => ?_⟩⟩
        exact go (j + 1) _ hm hz (.inr ⟨d, e1, by unfold zD; rw [c1, c2]; rfl⟩) (s1.trans s3) (s3 _ _ hL) t2 nt2

end
end K22

set_option Elab.async false
set_option linter.all false
set_option maxRecDepth 100000
set_option maxHeartbeats 4000000
/-! rows and polys in memory -/
namespace K22
open PySem PySem.Spec PyProof.Rows L2 Tw
/-- tuples are kept -/
def Kt (H H' : Hp) : Prop := ∀ b xs, H b = some (.tup xs) → H' b = some (.tup xs)
theorem Kt.of {H H' : Hp} (s : Same H H') : Kt H H' := fun b xs e => s b _ e
theorem Kt.trans {H H1 H2 : Hp} (x : Kt H H1) (y : Kt H1 H2) : Kt H H2 := fun b xs e => y b xs (x b xs e)
theorem kt_kp {a : Addr} {H H' : Hp} (w : We a H) (k : Kp a H H') : Kt H H' := fun b xs e => k b _ (fun z => by
  obtain ⟨x, y, c, h⟩ := w
  rw [z, h] at e; cases e) e
theorem kt_upd {L : Addr} {H : Hp} {ys : List V} {o : HO} (h : H L = some (.lst ys)) : Kt H (upd H L o) := fun b xs e => by
  rw [upd_ne (fun z => by rw [z, h] at e; cases e)]; exact e
def Ro (H : Hp) (v : V) (r : List Int) : Prop := ∃ p, v = .ref p ∧ H p = some (.tup (r.map V.int))
theorem Ro.kt {H H' : Hp} {v : V} {r : List Int} (k : Kt H H') (h : Ro H v r) : Ro H' v r := by
  obtain ⟨p, e, f⟩ := h
  exact ⟨p, e, k _ _ f⟩
def RoA (H : Hp) (xs : List V) (rs : List (List Int)) : Prop := xs.length = rs.length ∧ ∀ (i : Nat) v, xs[i]? = some v → ∃ r, rs[i]? = some r ∧ Ro H v r
theorem RoA.kt {H H' : Hp} {v : List V} {r : List (List Int)} (k : Kt H H') (h : RoA H v r) : RoA H' v r :=
  ⟨h.1, fun i v e => let ⟨r, e1, e2⟩ := h.2 i v e; ⟨r, e1, e2.kt k⟩⟩
def Po (H : Hp) (v : V) (p : List (List Int)) : Prop := ∃ q xs, v = .ref q ∧ H q = some (.tup xs) ∧ RoA H xs p
theorem Po.kt {H H' : Hp} {v : V} {r : List (List Int)} (k : Kt H H') (h : Po H v r) : Po H' v r := by
  obtain ⟨q, xs, e, f, g⟩ := h
  exact ⟨q, xs, e, k _ _ f, g.kt k⟩
theorem RoA.nil (H : Hp) : RoA H [] [] := ⟨rfl, fun i v e => by simp at e⟩
theorem RoA.snoc {H : Hp} {xs : List V} {rs : List (List Int)} {v : V} {r : List Int} (h : RoA H xs rs) (g : Ro H v r) : RoA H (xs ++ [v]) (rs ++ [r]) := by
  obtain ⟨h1, h2⟩ := h
  refine ⟨by simp [h1], fun i u e => ?_⟩
  rcases Nat.lt_trichotomy i xs.length with c | c | c
  · rw [List.getElem?_append_left c] at e
    obtain ⟨r', e1, e2⟩ := h2 i u e
    exact ⟨r', by rw [List.getElem?_append_left (by omega)]; exact e1, e2⟩
  · subst c
    rw [List.getElem?_append_right (Nat.le_refl _), Nat.sub_self] at e
    cases e
    refine ⟨r, ?_, g⟩
    rw [h1, List.getElem?_append_right (Nat.le_refl _), Nat.sub_self]
    rfl
  · rw [List.getElem?_eq_none (by simp; omega)] at e
    cases e
theorem RoA.take {H : Hp} {xs : List V} {rs : List (List Int)} (k : Nat) (h : RoA H xs rs) : RoA H (xs.take k) (rs.take k) := by
  refine ⟨by rw [List.length_take, List.length_take, h.1], fun i v e => ?_⟩
  rw [List.getElem?_take] at e ⊢
  split at e
  · rw [if_pos ‹_›]; exact h.2 i v e
  · cases e
theorem RoA.set {H : Hp} {xs : List V} {rs : List (List Int)} {v : V} {r : List Int} (k : Nat) (h : RoA H xs rs) (g : Ro H v r) : RoA H (xs.set k v) (rs.set k r) := by
  refine ⟨by rw [List.length_set, List.length_set, h.1], fun i u e => ?_⟩
  rw [List.getElem?_set] at e ⊢
  rw [← h.1]
  split at e
  · rw [if_pos ‹_›]
    split at e
    · rw [if_pos ‹_›]; cases e; exact ⟨r, rfl, g⟩
    · cases e
  · rw [if_neg ‹_›]; exact h.2 i u e
theorem RoA.get {H : Hp} {xs : List V} {rs : List (List Int)} {k : Nat} (h : RoA H xs rs) (hk : k < rs.length) : ∃ v, xs[k]? = some v ∧ Ro H v rs[k] := by
  have hx : k < xs.length := by rw [h.1]; exact hk
  obtain ⟨r, e1, e2⟩ := h.2 k xs[k] (List.getElem?_eq_getElem hx)
  rw [List.getElem?_eq_getElem hk] at e1
  cases e1
  exact ⟨_, List.getElem?_eq_getElem hx, e2⟩
/-! as data -/
def rowD (ns : List Int) : PyData := .tuple (ns.map PyData.int)
def polyD (p : List (List Int)) : PyData := .tuple (p.map rowD)
theorem da_ints (a : Addr) (H : Hp) : ∀ ns : List Int, DaAll a H (ns.map V.int) (ns.map PyData.int)
  | [] => .nil
  | n :: ns => .cons (.int n) (da_ints a H ns)
theorem We.nt {a p : Addr} {H : Hp} {xs : List V} (w : We a H) (h : H p = some (.tup xs)) : p ≠ a := fun z => by
  obtain ⟨x, y, c, e⟩ := w
  rw [z, e] at h; cases h
theorem da_row {a : Addr} {H : Hp} {v : V} {r : List Int} (w : We a H) (h : Ro H v r) : Da a H v (rowD r) := by
  obtain ⟨p, rfl, e⟩ := h
  exact .tup (We.nt w e) e (da_ints a H r)
theorem das_rows {a : Addr} {H : Hp} (w : We a H) : ∀ {xs : List V} {rs : List (List Int)}, RoA H xs rs → DaAll a H xs (rs.map rowD)
  | [], [], _ => .nil
  | [], r :: rs, h => by have := h.1; simp at this
  | x :: xs, [], h => by have := h.1; simp at this
  | x :: xs, r :: rs, h => by
    obtain ⟨r', e1, e2⟩ := h.2 0 x rfl
    cases e1
    refine .cons (da_row w e2) (das_rows w ⟨by have := h.1; simpa using this, fun i v e => ?_⟩)
    obtain ⟨r', e1, e2⟩ := h.2 (i + 1) v (by simpa using e)
    exact ⟨r', by simpa using e1, e2⟩
theorem da_poly {a : Addr} {H : Hp} {v : V} {p : List (List Int)} (w : We a H) (h : Po H v p) : Da a H v (polyD p) := by
  obtain ⟨q, xs, rfl, e, g⟩ := h
  exact .tup (We.nt w e) e (das_rows w g)
theorem nice_row (ns : List Int) : Nice 1 (rowD ns) := nice_tup fun d hd => by
  obtain ⟨i, _, rfl⟩ := List.mem_map.mp hd
  exact nice_int i
theorem nice_poly (p : List (List Int)) : Nice 2 (polyD p) := nice_tup fun d hd => by
  obtain ⟨i, _, rfl⟩ := List.mem_map.mp hd
  exact nice_row i
theorem zD_int (c : Int) : zD (.int c) = (c == 0) := by
  unfold zD
  simp [PyData.eqv]
theorem zD_row (r : List Int) : zD (rowD r) = r.isEmpty := by
  unfold zD rowD
  cases r <;> simp [PyData.eqv, PyData.eqvAll]
theorem rowB_ok {r : List Int} (h : okR r) : rowB (rowD r) = true := by
  unfold rowD rowB
  rw [Bool.and_eq_true]
  refine ⟨List.all_eq_true.mpr fun b hb => ?_, ?_⟩
  · rw [List.map_map] at hb
    obtain ⟨i, _, rfl⟩ := List.mem_map.mp hb
    rfl
  · unfold lastD
    rw [List.getLast?_map]
    cases e : r.getLast? with
    | none => rfl
    | some c => simpa [PyData.eqv] using h c e
theorem polyB_ok {p : List (List Int)} (h : okP p) : polyB (polyD p) = true := by
  unfold polyD polyB
  rw [Bool.and_eq_true]
  refine ⟨List.all_eq_true.mpr fun b hb => ?_, ?_⟩
  · rw [List.map_map] at hb
    obtain ⟨r, hr, rfl⟩ := List.mem_map.mp hb
    exact rowB_ok (h.1 r hr)
  · unfold lastD
    rw [List.getLast?_map]
    cases e : p.getLast? with
    | none => rfl
    | some r =>
      have := h.2 r e
      cases r with
      | nil => exact absurd rfl this
      | cons _ _ => simp [rowD, PyData.eqv, PyData.eqvAll]
theorem sm_row {n : Nat} {r : List Int} (h : r.length ≤ n) : Sm 1 n (rowD r) := sm_tup (by rw [List.length_map]; exact h) fun d hd => by
  obtain ⟨i, _, rfl⟩ := List.mem_map.mp hd
  exact sm_int _ _ i
theorem sm_poly {n b : Nat} {p : List (List Int)} (h : Bd n b p) : Sm 2 n (polyD p) := sm_tup (by rw [List.length_map]; exact h.1) fun d hd => by
  obtain ⟨r, hr, rfl⟩ := List.mem_map.mp hd
  exact sm_row (h.2 r hr).1
/-! trims -/
/-- a list of ints, a list of rows: without its last zeros -/
def spTrimI : Sp := fun vs H Q _ => ∃ p l, vs = [.ref p] ∧ H p = some (.lst (l.map V.int)) ∧ ∀ v H', Same H H' → Ro H' v (trimI l) → Q v H'
def spTrimP : Sp := fun vs H Q _ => ∃ p xs rs, vs = [.ref p] ∧ H p = some (.lst xs) ∧ RoA H xs rs ∧ (∃ a, We a H) ∧ ∀ v H', Same H H' → Po H' v (trimP rs) → Q v H'
theorem trim_int (vs : List V) (H : Hp) (Q : VK) (E : XK) (h : spTrimI vs H Q E) : spTrim vs H Q E := by
  obtain ⟨p, l, rfl, hp, q⟩ := h
  refine ⟨0, p, _, _, rfl, hp, da_ints 0 H l, fun d hd => ?_, fun k t H' hk hz hb s n e => q _ H' s ⟨t, rfl, ?_⟩⟩
  · obtain ⟨i, _, rfl⟩ := List.mem_map.mp hd
    exact (nice_int i).up (by decide)
  · rw [e, ← List.map_take]
    congr 3
    refine (trimBy_take _ l k (by simpa using hk) (fun i c hi ec => ?_) ?_).symm
    · have := hz i (.int c) hi (by rw [List.getElem?_map, ec]; rfl)
      rwa [zD_int] at this
    · rcases hb with hb | ⟨d, e1, e2⟩
      · exact .inl hb
      · rw [List.getElem?_map] at e1
        cases ec : l[k - 1]? with
        | none => rw [ec] at e1; cases e1
        | some c =>
          rw [ec] at e1; cases e1
          rw [zD_int] at e2
          exact .inr ⟨c, rfl, e2⟩
theorem trim_rows (vs : List V) (H : Hp) (Q : VK) (E : XK) (h : spTrimP vs H Q E) : spTrim vs H Q E := by
  obtain ⟨p, xs, rs, rfl, hp, hr, ⟨a, w⟩, q⟩ := h
  refine ⟨a, p, _, _, rfl, hp, das_rows w hr, fun d hd => ?_, fun k t H' hk hz hb s n e => q _ H' s ?_⟩
  · obtain ⟨i, _, rfl⟩ := List.mem_map.mp hd
    exact (nice_row i).up (by decide)
  · have : trimP rs = rs.take k := by
      refine trimBy_take _ rs k (by rw [← hr.1]; exact hk) (fun i c hi ec => ?_) ?_
      · have := hz i (rowD c) hi (by rw [List.getElem?_map, ec]; rfl)
        rwa [zD_row] at this
      · rcases hb with hb | ⟨d, e1, e2⟩
        · exact .inl hb
        · rw [List.getElem?_map] at e1
          cases ec : rs[k - 1]? with
          | none => rw [ec] at e1; cases e1
          | some c =>
            rw [ec] at e1; cases e1
            rw [zD_row] at e2
            exact .inr ⟨c, rfl, e2⟩
    rw [this]
    exact ⟨t, _, rfl, e, (hr.kt (Kt.of s)).take k⟩
end K22

set_option Elab.async false
set_option linter.all false
set_option maxRecDepth 100000
set_option maxHeartbeats 4000000
local macro_rules | `(tactic| walk_at "rd") => `(tactic| dsimp only [L2.tSeq, L2.tNext, L2.tRet, L2.tRetN, L2.tAsg, L2.gName, L2.tIfS, L2.tDrop, L2.tCons, L2.tNil, L2.tC, L2.tVar, L2.tCB, L2.tAndV, L2.tOrV, L2.tNotV, L2.tB, L2.tTest, L2.tOp, L2.tUn, L2.tNot, L2.tAnd, L2.tOr, L2.tIf, L2.tCall, L2.tTup, L2.tLst, L2.tNotT, L2.tYes, L2.gTup, L2.gCons, L2.gNil, L2.gSub, L2.tBM0, L2.tBM, L2.tWhile, L2.tFor, L2.iRng1])
namespace K22
open PySem PySem.Spec PyProof.Rows L2 Tw
def spInt : Sp := fun vs H Q _ => ∃ a, vs = [.ref a] ∧ We a H ∧ ∀ (i : Int) H', i.natAbs ≤ 500000 → Kp a H H' → We a H' → Q (.int i) H'
def spRowM : Sp := fun vs H Q _ => ∃ a n, vs = [.ref a, .int n] ∧ We a H ∧ 0 ≤ n ∧ n ≤ 100 ∧ ∀ v ns H', Kp a H H' → We a H' → Ro H' v ns → okR ns → (ns.length : Int) ≤ n → (∀ c ∈ ns, c.natAbs ≤ 500000) → Q v H'
def spPolyM : Sp := fun vs H Q _ => ∃ a n, vs = [.ref a, .int n] ∧ We a H ∧ 0 < n ∧ n ≤ 100 ∧ ∀ v rs H', Kp a H H' → We a H' → Po H' v rs → okP rs → (∀ k : Nat, n ≤ k → Bd k 500000 rs) → Q v H'
section
variable {P : Program} {w : World} {K : PySem.W.Frag} {mg : Str → Option Value} {base : Heap}
theorem scNum : FnScope ["_law_well_here"] ["_law_well_here"] (defScope sNum) := ⟨rfl, rfl, rfl, by decide +kernel, rfl, by decide +kernel, by decide +kernel⟩
theorem ok_num (D : Def K mg "_law_number" sNum ["_law_well_here"]) (c1 : Cal P w K mg base "_law_draw" 1 ["_law_well_here", "_law_many"] spDraw) : Cal P w K mg base "_law_number" 2 ["_law_well_here"] spInt := by
  refine D.ok scNum (fun vs H Q E h => ?_) (fun f cdv A out s H vs Q E hr h => ?_)
  · obtain ⟨a, rfl, _⟩ := h; rfl
  obtain ⟨a, rfl, hw, q⟩ := h
  refine ⟨_, pss_cons (ps_if (pt_cmpR op_eq (pe_cal c1 hr (Nat.le_refl 1) (by rfl) (pa_cons (pv 0) (pa_cons pe_int pa_nil))) pe_int (nomark _))
      (pss_one (ps_ret (pe_op op_sub (pe_cal c1 hr (Nat.le_refl 1) (by rfl) (pa_cons (pv 0) (pa_cons (pe_op op_pow pe_int pe_int) pa_nil))) pe_int))) pss_nil)
    (pss_one (ps_ret (pe_op op_sub (pe_cal c1 hr (Nat.le_refl 1) (by rfl) (pa_cons (pv 0) (pa_cons pe_int pa_nil))) pe_int))), ?_⟩
  walk_at "rd"
  refine ⟨.ref a, rfl, a, _, rfl, hw, by decide, by decide, fun d H1 d0 d1 k1 w1 => ?_⟩
  refine ⟨rfl, _, rfl, ite2 (fun c => ?_) (fun c => ?_)⟩
  · refine ⟨.ref a, rfl, 10, 6, rfl, rfl, ⟨by decide, by decide, by decide⟩, a, _, rfl, w1, by decide, by decide, fun d2 H2 e0 e1 k2 w2 => ?_⟩
    exact ⟨d2, _, rfl, rfl, q _ _ (by first | omega | (have e2 : d2 < 1000000 := e1; omega)) (k1.trans k2) w2⟩
  · refine ⟨.ref a, rfl, a, _, rfl, w1, by decide, by decide, fun d2 H2 e0 e1 k2 w2 => ?_⟩
    exact ⟨d2, _, rfl, rfl, q _ _ (by first | omega | (have e2 : d2 < 1000000 := e1; omega)) (k1.trans k2) w2⟩
theorem scLRow : FnScope ["_law_well_here", "_law_many", "_law_made", "_law_k"] ["_law_well_here", "_law_many"] (defScope sLRow) := ⟨rfl, rfl, rfl, by decide +kernel, rfl, by decide +kernel, by decide +kernel⟩
theorem ok_lrow (D : Def K mg "_law_row" sLRow ["_law_well_here", "_law_many"]) (nb : Nb mg) (c1 : Cal P w K mg base "_law_draw" 1 ["_law_well_here", "_law_many"] spDraw)
    (c2 : Cal P w K mg base "_law_number" 2 ["_law_well_here"] spInt) (c3 : Cal P w K mg base "_law_trim" 1 ["_law_some"] spTrimI) : Cal P w K mg base "_law_row" 3 ["_law_well_here", "_law_many"] spRowM := by
  refine D.ok scLRow (fun vs H Q E h => ?_) (fun f cdv A out s H vs Q E hr h => ?_)
  · obtain ⟨a, n, rfl, _⟩ := h; rfl
  obtain ⟨a, n, rfl, hw, n0, n1, q⟩ := h
  refine ⟨_, pss_cons (ps_set (i := 2) scLRow.nd rfl (Or.inl rfl) (pe_lst pa_nil))
    (pss_cons (ps_for PassesOwn.never rfl (pi_range1 (by rfl) nb.rng (pa_cons (pe_cal c1 hr (by decide) (by rfl) (pa_cons (pv 0) (pa_cons (pe_op op_add (pv 1) pe_int) pa_nil))) pa_nil))
        (pg_name (i := 3) scLRow.nd rfl (Or.inl rfl))
        (pss_one (ps_expr (pe_bm PySem.F.plainAttrs_list PySem.F.slot_list_append PySem.F.type_list_append mt_append (pv 2) (pa_cons (pe_cal c2 hr (by decide) (by rfl) (pa_cons (pv 0) pa_nil)) pa_nil)))))
    (pss_one (ps_ret (pe_cal c3 hr (by decide) (by rfl) (pa_cons (pv 2) pa_nil))))), ?_⟩
  walk_at "rd"
  refine ⟨sz (by decide), fun L nL => ?_⟩
  have La : L ≠ a := hw.ne nL
  have w0 := we_new (o := .lst []) hw nL
  have k0 : Kp a H (upd H L (.lst [])) := kp_new nL
  refine ⟨.ref a, rfl, .int n, rfl, n, 1, rfl, rfl, a, _, rfl, w0, by omega, by omega, fun d H1 d0 d1 k1 w1 => ?_⟩
  refine ⟨d, rfl, by omega, by omega, for_rng (lo := 0) (n := d.toNat) (fun i σ H' => ∃ (x3 : Option V) (ns : List Int), σ = [some (.ref a), some (.int n), some (.ref L), x3] ∧ Kp a H H' ∧ We a H' ∧ H' L = some (.lst (ns.map V.int)) ∧ ns.length = i ∧ ∀ c ∈ ns, c.natAbs ≤ 500000) ?_ ?_ ?_⟩
  · exact ⟨none, [], rfl, k0.trans k1, w1, k1 _ _ La upd_same, rfl, fun c hc => by cases hc⟩
  · rintro i σ H2 hi ⟨x3, ns, rfl, k2, w2, e2, l2, b2⟩
    walk_at "rd"
    refine ⟨.ref L, rfl, .inl ⟨rfl, _, SqL.of e2⟩, .ref a, rfl, a, rfl, w2, fun j H3 jb k3 w3 => ⟨L, ns.map V.int, .int j, rfl, rfl, k3 _ _ La e2, ?_, ?_⟩⟩
    · rw [List.length_map]; exact lt_line (by omega)
    · have w4 : We a (upd H3 L (.lst (ns.map V.int ++ [.int j]))) := by obtain ⟨x, y, z, e⟩ := w3; exact ⟨x, y, z, by rw [upd_ne La.symm]; exact e⟩
      exact ⟨some (.int (0 + (i : Int))), ns ++ [j], rfl, kp_upd (k2.trans k3) nL, w4, by rw [upd_same, List.map_append]; rfl, by simp [l2], fun c hc => by
        rcases List.mem_append.mp hc with hc | hc
        · exact b2 c hc
        · rw [List.mem_singleton.mp hc]; exact jb⟩
  · rintro σ H2 ⟨x3, ns, rfl, k2, w2, e2, l2, b2⟩
    refine ⟨.ref L, rfl, L, ns, rfl, e2, fun v H3 s3 r3 => q v (trimI ns) H3 (k2.trans (Kp.of s3)) (w2.to s3) r3 (okR_trim _) ?_ fun c hc => b2 c (trimBy_mem _ _ hc)⟩
    have : (trimI ns).length ≤ ns.length := trimBy_len _ ns
    omega
theorem scLPoly : FnScope ["_law_well_here", "_law_many", "_law_made", "_law_k"] ["_law_well_here", "_law_many"] (defScope sLPoly) := ⟨rfl, rfl, rfl, by decide +kernel, rfl, by decide +kernel, by decide +kernel⟩
theorem ok_lpoly (D : Def K mg "_law_poly" sLPoly ["_law_well_here", "_law_many"]) (nb : Nb mg) (c1 : Cal P w K mg base "_law_draw" 1 ["_law_well_here", "_law_many"] spDraw)
    (c2 : Cal P w K mg base "_law_row" 3 ["_law_well_here", "_law_many"] spRowM) (c3 : Cal P w K mg base "_law_trim" 1 ["_law_some"] spTrimP) : Cal P w K mg base "_law_poly" 4 ["_law_well_here", "_law_many"] spPolyM := by
  refine D.ok scLPoly (fun vs H Q E h => ?_) (fun f cdv A out s H vs Q E hr h => ?_)
  · obtain ⟨a, n, rfl, _⟩ := h; rfl
  obtain ⟨a, n, rfl, hw, n0, n1, q⟩ := h
  refine ⟨_, pss_cons (ps_set (i := 2) scLPoly.nd rfl (Or.inl rfl) (pe_lst pa_nil))
    (pss_cons (ps_for PassesOwn.never rfl (pi_range1 (by rfl) nb.rng (pa_cons (pe_op op_add pe_int (pe_cal c1 hr (by decide) (by rfl) (pa_cons (pv 0) (pa_cons (pv 1) pa_nil)))) pa_nil))
        (pg_name (i := 3) scLPoly.nd rfl (Or.inl rfl))
        (pss_one (ps_expr (pe_bm PySem.F.plainAttrs_list PySem.F.slot_list_append PySem.F.type_list_append mt_append (pv 2) (pa_cons (pe_cal c2 hr (by decide) (by rfl) (pa_cons (pv 0) (pa_cons (pv 1) pa_nil))) pa_nil)))))
    (pss_one (ps_ret (pe_cal c3 hr (by decide) (by rfl) (pa_cons (pv 2) pa_nil))))), ?_⟩
  walk_at "rd"
  refine ⟨sz (by decide), fun L nL => ?_⟩
  have La : L ≠ a := hw.ne nL
  have w0 := we_new (o := .lst []) hw nL
  have k0 : Kp a H (upd H L (.lst [])) := kp_new nL
  refine ⟨.ref a, rfl, .int n, rfl, a, _, rfl, w0, by omega, by omega, fun d H1 d0 d1 k1 w1 => ?_⟩
  refine ⟨1, d, rfl, rfl, 1 + d, rfl, by omega, by omega, for_rng (lo := 0) (n := (1 + d).toNat) (fun i σ H' => ∃ (x3 : Option V) (xs : List V) (rs : List (List Int)), σ = [some (.ref a), some (.int n), some (.ref L), x3] ∧ Kp a H H' ∧ We a H' ∧ H' L = some (.lst xs) ∧
    RoA H' xs rs ∧ rs.length = i ∧ ∀ r ∈ rs, (r.length : Int) ≤ n ∧ okR r ∧ ∀ c ∈ r, c.natAbs ≤ 500000) ?_ ?_ ?_⟩
  · exact ⟨none, [], [], rfl, k0.trans k1, w1, k1 _ _ La upd_same, RoA.nil _, rfl, fun r hr => by simp at hr⟩
  · rintro i σ H2 hi ⟨x3, xs, rs, rfl, k2, w2, e2, g2, l2, m2⟩
    walk_at "rd"
    refine ⟨.ref L, rfl, .inl ⟨rfl, _, SqL.of e2⟩, .ref a, rfl, .int n, rfl, a, n, rfl, w2, by omega, n1, fun v r H3 k3 w3 dv ok lr br => ⟨L, xs, v, rfl, rfl, k3 _ _ La e2, ?_, ?_⟩⟩
    · have l := g2.1
      exact lt_line (by omega)
    · have e3 := k3 _ _ La e2
      have w4 : We a (upd H3 L (.lst (xs ++ [v]))) := by obtain ⟨x, y, z, e⟩ := w3; exact ⟨x, y, z, by rw [upd_ne La.symm]; exact e⟩
      have dnew : RoA (upd H3 L (.lst (xs ++ [v]))) (xs ++ [v]) (rs ++ [r]) := ((g2.kt (kt_kp w2 k3)).snoc dv).kt (kt_upd e3)
      refine ⟨some (.int (0 + (i : Int))), xs ++ [v], rs ++ [r], rfl, kp_upd (k2.trans k3) nL, w4, upd_same, dnew, by simp [l2], fun z hz => ?_⟩
      rcases List.mem_append.mp hz with hz | hz
      · exact m2 z hz
      · rw [List.mem_singleton.mp hz]; exact ⟨lr, ok, br⟩
  · rintro σ H2 ⟨x3, xs, rs, rfl, k2, w2, e2, dA, l2, m2⟩
    refine ⟨.ref L, rfl, L, xs, rs, rfl, e2, dA, ⟨a, w2⟩, fun v H3 s3 r3 => q v (trimP rs) H3 (k2.trans (Kp.of s3)) (w2.to s3) r3 (okP_trim fun r hr => (m2 r hr).2.1) fun k hk => ⟨?_, fun r hr => ?_⟩⟩
    · have : (trimP rs).length ≤ rs.length := trimBy_len _ rs
      omega
    · have m3 := m2 r (trimBy_mem _ _ hr)
      exact ⟨by omega, m3.2.2⟩
end
end K22

set_option Elab.async false
set_option linter.all false
set_option maxRecDepth 100000
set_option maxHeartbeats 8000000
local macro_rules | `(tactic| walk_at "rd") => `(tactic| dsimp only [Evl.tCut, L2.tSeq, L2.tNext, L2.tRet, L2.tRetN, L2.tAsg, L2.gName, L2.tIfS, L2.tDrop, L2.tCons, L2.tNil, L2.tC, L2.tVar, L2.tCB, L2.tAndV, L2.tOrV, L2.tNotV, L2.tB, L2.tTest, L2.tOp, L2.tUn, L2.tNot, L2.tAnd, L2.tOr, L2.tIf, L2.tCall, L2.tTup, L2.tLst, L2.tNotT, L2.tYes, L2.gTup, L2.gCons, L2.gNil, L2.gSub, L2.tBM0, L2.tBM, L2.tWhile, L2.iRng1, L2.tSl, L2.tNoPart, L2.tPart, Tw.tRevT])
namespace K22
open PySem PySem.Spec PyProof.Rows L2 Tw
/-- a new well -/
def spWell (K : PySem.W.Frag) : Sp := fun vs H Q _ => ∃ (p : Addr) (ns : List Int) (k : Int), vs = [.ref p, .int k] ∧ SqL K H p (ns.map V.int) ∧ ns.length ≤ 63 ∧ 0 ≤ k ∧ ∀ a H', Same H H' → H a = none → We a H' → Q (.ref a) H'
def spLaw (K : PySem.W.Frag) : Sp := fun vs H Q _ => ∃ (p : Addr) (ns : List Int), vs = [.ref p] ∧ SqL K H p (ns.map V.int) ∧ ns.length ≤ 63 ∧ ∀ H', Q (.bl true) H'
section
variable {P : Program} {w : World} {K : PySem.W.Frag} {mg : Str → Option Value} {base : Heap}
theorem scWell : FnScope ["_law_script", "_law_at_here", "_law_mixed", "_law_cell", "_law_own"] ["_law_script", "_law_at_here"] (defScope sWell) := ⟨rfl, rfl, rfl, by decide +kernel, rfl, by decide +kernel, by decide +kernel⟩
theorem ok_well (D : Def K mg "_law_well" sWell ["_law_script", "_law_at_here"]) (nb : Nb mg) : Cal P w K mg base "_law_well" 1 ["_law_script", "_law_at_here"] (spWell K) := by
  refine D.ok scWell (fun vs H Q E h => ?_) (fun f cdv A out s H vs Q E hr h => ?_)
  · obtain ⟨p, ns, k, rfl, _⟩ := h; rfl
  obtain ⟨p, ns, k, rfl, hp, hl, k0, q⟩ := h
  refine ⟨_, pss_cons (ps_set (i := 2) scWell.nd rfl (Or.inl rfl) (pe_op op_add pe_int (pe_op op_mul pe_int (pv 1))))
    (pss_cons (ps_for PassesOwn.never rfl (pi_list (pe_slice sl_list (pv 0) po_none (po_some pe_int))) (pg_name (i := 3) scWell.nd rfl (Or.inl rfl))
        (pss_one (ps_set (i := 2) scWell.nd rfl (Or.inl rfl) (pe_op op_mod (pe_callTy (T := "int") call_int1 (by rfl) nb.int (by decide +kernel)
          (pa_cons (pe_op op_add (pe_op op_add (pe_op op_mul (pv 2) pe_int) (pe_op op_mod (pe_callTy (T := "int") call_int1 (by rfl) nb.int (by decide +kernel) (pa_cons (pv 3) pa_nil)) pe_int)) pe_int) pa_nil)) pe_int))))
    (Evl.pss_cut (ps_set (i := 4) scWell.nd rfl (Or.inl rfl) (pe_ifExp (pt_cmpR op_lt (pv 1) (pe_callB (id := "len") call_len_seq (by rfl) nb.len PySem.boot_len (pa_cons (pv 0) pa_nil)) (nomark _))
        (pe_callTy (T := "int") call_int1 (by rfl) nb.int (by decide +kernel) (pa_cons (pe_ix ix_list (pv 0) (pv 1) (fun _ _ => rfl)) pa_nil)) pe_int))
    (pss_cons (ps_set (i := 2) scWell.nd rfl (Or.inl rfl) (pe_op op_mod (pe_callTy (T := "int") call_int1 (by rfl) nb.int (by decide +kernel)
        (pa_cons (pe_op op_add (pe_op op_add (pe_op op_mul (pv 2) pe_int) (pe_op op_mul (pe_op op_mod (pe_callTy (T := "int") call_int1 (by rfl) nb.int (by decide +kernel) (pa_cons (pv 4) pa_nil)) pe_int) pe_int)) pe_int) pa_nil)) pe_int))
    (pss_one (ps_ret (pe_lst (pa_cons (pe_ifExp (PW.pt (pw_or (pt_cmpR op_lt (pv 4) pe_int (nomark _)) (pw_or1 (pt_cmpR op_ge (pv 4) (pe_op op_pow pe_int pe_int) (nomark _)))))
        (pe_callB (id := "abs") call_abs (by rfl) nb.abs (by decide +kernel) (pa_cons (pv 4) pa_nil)) pe_int) (pa_cons (pv 2) (pa_cons pe_int pa_nil))))))))), ?_⟩
  walk_at "rd"
  refine ⟨.int k, rfl, _, _, rfl, rfl, .inl ⟨by decide, by decide⟩, _, _, rfl, rfl, .ref p, rfl, 9, rfl, p, _, rfl, hp, fun c nc => ?_⟩
  have s1 := same_new (o := .lst (L2.cutV (ns.map V.int) none (some 9))) nc
  have hc : upd H c (.lst (L2.cutV (ns.map V.int) none (some 9))) c = some (.lst (L2.cutV (ns.map V.int) none (some 9))) := upd_same
  generalize upd H c _ = H1 at s1 hc ⊢
  have hp1 : SqL K H1 p (ns.map V.int) := s1.seq hp
  refine ⟨c, rfl, ⟨_, SqL.of hc⟩, for_lst (xs := L2.cutV (ns.map V.int) none (some 9)) (fun i σ H' => ∃ (mx : Int) (x3 : Option V), σ = [some (.ref p), some (.int k), some (.int mx), x3, none] ∧ H' = H1) ⟨_, none, rfl, rfl⟩ (fun i σ' H' _ h => ?_) (fun i x σ' H' hx h => ?_) (fun σ' H' h => ?_)⟩
  · obtain ⟨mx, x3, rfl, rfl⟩ := h; exact SqL.of hc
  · obtain ⟨mx, x3, rfl, rfl⟩ := h
    obtain ⟨n, _, rfl⟩ : ∃ n, n ∈ ns ∧ V.int n = x := List.mem_map.mp (List.mem_of_mem_drop (List.mem_of_mem_take (List.mem_of_getElem? hx)))
    refine ⟨.int mx, rfl, _, _, rfl, rfl, .inr ⟨by decide, by decide⟩, .int n, rfl, .inl ⟨n, rfl, _, _, rfl, rfl, (by show (0 : Int) < _; decide), _, _, rfl, rfl, _, _, rfl, rfl, .inl ⟨_, rfl, _, _, rfl, rfl, (by show (0 : Int) < _; decide), ?_⟩⟩⟩
    exact ⟨_, some (.int n), rfl, rfl⟩
  · obtain ⟨mx, x3, rfl, rfl⟩ := h
    refine ⟨fun σ2 H2 => ∃ o : Int, σ2 = [some (.ref p), some (.int k), some (.int mx), x3, some (.int o)] ∧ H2 = H', ⟨.int k, rfl, .ref p, rfl, p, _, rfl, .inl hp1, _, _, rfl, rfl, _, rfl, ite2 (fun c1 => ?_) (fun c1 => ⟨0, rfl, rfl⟩)⟩, ?_⟩
    · have c1 := of_decide_eq_true c1
      rw [List.length_map] at c1
      obtain ⟨j, rfl⟩ := Int.eq_ofNat_of_zero_le k0
      have hj : j < ns.length := by omega
      refine ⟨.ref p, rfl, .int j, rfl, p, _, j, .int ns[j], rfl, rfl, hp1, atI_nat (by rw [List.getElem?_map, List.getElem?_eq_getElem hj]; rfl), .inl ⟨_, rfl, ns[j], rfl, rfl⟩⟩
    · rintro σ2 H2 ⟨o, rfl, rfl⟩
      refine ⟨.int mx, rfl, _, _, rfl, rfl, .inr ⟨by decide, by decide⟩, .int o, rfl, .inl ⟨o, rfl, _, _, rfl, rfl, (by show (0 : Int) < _; decide), _, _, rfl, rfl, .inr ⟨by decide, by decide⟩, _, _, rfl, rfl, _, _, rfl, rfl, .inl ⟨_, rfl, _, _, rfl, rfl, (by show (0 : Int) < _; decide), ?_⟩⟩⟩
      have fin : ∀ x y : Int, [V.int x, .int y, .int 0].length ≤ sizeLine ∧ ∀ a, H2 a = none → Q (.ref a) (upd H2 a (.lst [.int x, .int y, .int 0])) := fun x y => ⟨sz (by simp), fun a na => q a _ (s1.trans (same_new na)) (s1.free na) ⟨_, _, _, upd_same⟩⟩
      refine ⟨.int o, rfl, _, _, rfl, rfl, _, rfl, ite2 (fun c1 => ?_) (fun c1 => ?_)⟩
      · exact iteT ⟨.int o, rfl, o, rfl, _, rfl, fin _ _⟩
      · refine ⟨.int o, rfl, _, _, rfl, rfl, ⟨by decide, by decide, by decide⟩, _, _, rfl, rfl, _, rfl, ite2 (fun c2 => ?_) (fun c2 => ?_)⟩
        · exact ⟨.int o, rfl, o, rfl, _, rfl, fin _ _⟩
        · exact ⟨_, rfl, fin _ _⟩

end
end K22

set_option Elab.async false
set_option linter.all false
set_option maxRecDepth 100000
set_option maxHeartbeats 4000000
local macro_rules | `(tactic| walk_at "rd") => `(tactic| dsimp only [Evl.tCut, L2.tSeq, L2.tNext, L2.tRet, L2.tRetN, L2.tAsg, L2.gName, L2.tIfS, L2.tDrop, L2.tCons, L2.tNil, L2.tC, L2.tVar, L2.tCB, L2.tAndV, L2.tOrV, L2.tNotV, L2.tB, L2.tTest, L2.tOp, L2.tUn, L2.tNot, L2.tAnd, L2.tOr, L2.tIf, L2.tCall, L2.tTup, L2.tLst, L2.tNotT, L2.tYes, L2.gTup, L2.gCons, L2.gNil, L2.gSub, L2.tBM0, L2.tBM, L2.tWhile, L2.tFor, L2.iRng1, L2.tPar, L2.tPar3, L2.tSl, L2.tNoPart, L2.tPart, Tw.tRevT])
namespace K22
open PySem PySem.Spec PyProof.Rows L2 Tw
/-- a fraction in memory -/
def Pr (H : Hp) (v : V) (a b : Int) : Prop := ∃ p, v = .ref p ∧ H p = some (.tup [.int a, .int b])
theorem Pr.kt {H H' : Hp} {v : V} {a b : Int} (k : Kt H H') (h : Pr H v a b) : Pr H' v a b := by
  obtain ⟨p, e, f⟩ := h
  exact ⟨p, e, k _ _ f⟩
theorem Pr.ix0 {K : PySem.W.Frag} {H : Hp} {v : V} {a b : Int} {Q : VK} (h : Pr H v a b) (q : Q (.int a) H) : rIxT K v (.int 0) H Q := by
  obtain ⟨p, rfl, f⟩ := h
  exact ⟨p, _, 0, .int a, rfl, rfl, SqT.of f, rfl, q⟩
theorem Pr.ix1 {K : PySem.W.Frag} {H : Hp} {v : V} {a b : Int} {Q : VK} (h : Pr H v a b) (q : Q (.int b) H) : rIxT K v (.int 1) H Q := by
  obtain ⟨p, rfl, f⟩ := h
  exact ⟨p, _, 1, .int b, rfl, rfl, SqT.of f, rfl, q⟩
def spCommon : Sp := fun vs H Q _ => ∃ i j : Int, vs = [.int i, .int j] ∧ ∀ H', Same H H' → Q (.int (Nat.gcd i.natAbs j.natAbs : Nat)) H'
def spLean : Sp := fun vs H Q _ => ∃ i j : Int, vs = [.int i, .int j] ∧ 0 < j ∧ j < 1073741824 ∧ ∀ v a b H', Same H H' → Pr H' v a b → Lo a b i j → Q v H'
def spAdd : Sp := fun vs H Q _ => ∃ u v a b c, vs = [u, v] ∧ Pr H u a b ∧ Pr H v c 1 ∧ 0 < b ∧ b < 1073741824 ∧ c.natAbs < 2 ^ 64 ∧ ∀ v x y H', Same H H' → Pr H' v x y → Lo x y (a * 1 + c * b) (b * 1) → Q v H'
def spMul : Sp := fun vs H Q _ => ∃ u v a b n m, vs = [u, v] ∧ Pr H u a b ∧ Pr H v n m ∧ 0 < b * m ∧ b * m < 1073741824 ∧ n.natAbs < 2 ^ 64 ∧ m.natAbs < 2 ^ 64 ∧ ∀ v x y H', Same H H' → Pr H' v x y → Lo x y (a * n) (b * m) → Q v H'
section
variable {P : Program} {w : World} {K : PySem.W.Frag} {mg : Str → Option Value} {base : Heap}
theorem gcd_turn {f r : Nat} : Nat.gcd r (f % r) = Nat.gcd f r := by
  rw [Nat.gcd_comm f r, Nat.gcd_rec r f, Nat.gcd_comm]
theorem scCommon : FnScope ["_law_one", "_law_two", "_law_far", "_law_rest"] ["_law_one", "_law_two"] (defScope sCommon) := ⟨rfl, rfl, rfl, by decide +kernel, rfl, by decide +kernel, by decide +kernel⟩
theorem ok_common (D : Def K mg "_law_common" sCommon ["_law_one", "_law_two"]) (nb : Nb mg) : Cal P w K mg base "_law_common" 1 ["_law_one", "_law_two"] spCommon := by
  refine D.ok scCommon (fun vs H Q E h => ?_) (fun f cdv A out s H vs Q E hr h => ?_)
  · obtain ⟨i, j, rfl, _⟩ := h; rfl
  obtain ⟨i, j, rfl, q⟩ := h
  refine ⟨_, pss_cons (ps_par (i := 2) (j := 3) rfl scCommon.nd rfl rfl (by decide) rfl rfl (pa_cons (pe_callB (id := "abs") call_abs (by rfl) nb.abs (by decide +kernel) (pa_cons (pv 0) pa_nil)) (pa_cons (pe_callB (id := "abs") call_abs (by rfl) nb.abs (by decide +kernel) (pa_cons (pv 1) pa_nil)) pa_nil)) rfl)
    (pss_cons (ps_while PassesOwn.never (pt_cmpR op_ne (pv 3) pe_int (nomark _))
      (pss_one (ps_par (i := 2) (j := 3) rfl scCommon.nd rfl rfl (by decide) rfl rfl (pa_cons (pv 3) (pa_cons (pe_op op_mod (pe_callTy (T := "int") call_int1 (by rfl) nb.int (by decide +kernel) (pa_cons (pv 2) pa_nil)) (pv 3)) pa_nil)) rfl)))
    (pss_one (ps_ret (pv 2)))), ?_⟩
  walk_at "rd"
  refine ⟨.int i, rfl, i, rfl, .int j, rfl, j, rfl, _, _, rfl, ?_⟩
  have ei : (if i < 0 then -i else i) = (i.natAbs : Int) := by split <;> omega
  have ej : (if j < 0 then -j else j) = (j.natAbs : Int) := by split <;> omega
  refine ⟨fun m σ H' => ∃ f r : Nat, m = r ∧ σ = [some (.int i), some (.int j), some (.int (f : Int)), some (.int (r : Int))] ∧ Same H H' ∧ Nat.gcd f r = Nat.gcd i.natAbs j.natAbs, ⟨j.natAbs, i.natAbs, j.natAbs, rfl, by rw [ei, ej]; rfl, Same.refl H, rfl⟩, ?_⟩
  rintro m σ H1 ⟨f, r, rfl, rfl, s1, g⟩
  refine ⟨.int m, rfl, rfl, _, rfl, ?_⟩
  rw [dec_int]
  by_cases c : m = 0
  · subst c
    refine iteF ⟨_, rfl, ?_⟩
    rw [Nat.gcd_zero_right] at g
    rw [g]
    exact q _ s1
  · rw [show ((m : Int) == 0) = false from beq_eq_false_iff_ne.mpr (by omega)]
    refine iteT ⟨fun σ' H' => ∃ m' f : Nat, m' < m ∧ σ' = [some (.int i), some (.int j), some (.int (f : Int)), some (.int (m' : Int))] ∧ Same H H' ∧ Nat.gcd f m' = Nat.gcd i.natAbs j.natAbs, fun σ' H' ⟨m', f', a1, a2, a3, a4⟩ => ⟨m', a1, f', m', rfl, a2, a3, a4⟩, ?_⟩
    refine ⟨.int m, rfl, .int f, rfl, .inl ⟨f, rfl, .int m, rfl, f, m, rfl, rfl, by show (0 : Int) < _; omega, _, _, rfl, ?_⟩⟩
    exact ⟨f % m, m, Nat.mod_lt _ (by omega), rfl, s1, by rw [gcd_turn]; exact g⟩

theorem scLean : FnScope ["_law_top", "_law_low", "_law_far"] ["_law_top", "_law_low"] (defScope sLean) := ⟨rfl, rfl, rfl, by decide +kernel, rfl, by decide +kernel, by decide +kernel⟩
theorem ok_lean (D : Def K mg "_law_lean" sLean ["_law_top", "_law_low"]) (c1 : Cal P w K mg base "_law_common" 1 ["_law_one", "_law_two"] spCommon) : Cal P w K mg base "_law_lean" 2 ["_law_top", "_law_low"] spLean := by
  refine D.ok scLean (fun vs H Q E h => ?_) (fun f cdv A out s H vs Q E hr h => ?_)
  · obtain ⟨i, j, rfl, _⟩ := h; rfl
  obtain ⟨i, j, rfl, j0, j1, q⟩ := h
  refine ⟨_, pss_cons (ps_set (i := 2) scLean.nd rfl (Or.inl rfl) (pe_ifExp (pt_cmpR op_gt (pv 1) pe_int (nomark _)) (pe_cal c1 hr (Nat.le_refl 1) (by rfl) (pa_cons (pv 0) (pa_cons (pv 1) pa_nil)))
      (pe_op op_sub pe_int (pe_cal c1 hr (Nat.le_refl 1) (by rfl) (pa_cons (pv 0) (pa_cons (pv 1) pa_nil))))))
    (pss_one (ps_ret (pe_tup (pa_cons (pe_op op_fdiv (pv 0) (pv 2)) (pa_cons (pe_op op_fdiv (pv 1) (pv 2)) pa_nil))))), ?_⟩
  walk_at "rd"
  refine ⟨.int j, rfl, j, 0, rfl, rfl, _, rfl, ite2 (fun c => ?_) (fun c => absurd (decide_eq_true j0) c)⟩
  refine ⟨.int i, rfl, .int j, rfl, i, j, rfl, fun H1 s1 => ?_⟩
  have g0 : 0 < Nat.gcd i.natAbs j.natAbs := Nat.gcd_pos_of_pos_right _ (by omega)
  have g1 : Nat.gcd i.natAbs j.natAbs ≤ j.natAbs := Nat.gcd_le_right _ (by omega)
  refine ⟨.int i, rfl, _, rfl, i, _, rfl, rfl, ⟨by omega, by omega⟩, .int j, rfl, _, rfl, j, _, rfl, rfl, ⟨by omega, by omega⟩, sz (by simp), fun t nt => ?_⟩
  exact q _ _ _ _ (s1.trans (same_new nt)) ⟨t, rfl, upd_same⟩ (lo_lean j0)
theorem scAdd : FnScope ["_law_one", "_law_two"] ["_law_one", "_law_two"] (defScope sAdd) := ⟨rfl, rfl, rfl, by decide +kernel, rfl, by decide +kernel, by decide +kernel⟩
theorem ok_add (D : Def K mg "_law_add" sAdd ["_law_one", "_law_two"]) (c1 : Cal P w K mg base "_law_lean" 2 ["_law_top", "_law_low"] spLean) : Cal P w K mg base "_law_add" 3 ["_law_one", "_law_two"] spAdd := by
  refine D.ok scAdd (fun vs H Q E h => ?_) (fun f cdv A out s H vs Q E hr h => ?_)
  · obtain ⟨u, v, a, b, c, rfl, _⟩ := h; rfl
  obtain ⟨u, v, a, b, c, rfl, hu, hv, b0, b1, cc, q⟩ := h
  refine ⟨_, pss_one (ps_ret (pe_cal c1 hr (Nat.le_refl 2) (by rfl) (pa_cons (pe_op op_add (pe_op op_mul (pe_ix ix_tup (pv 0) pe_int (fun _ _ => rfl)) (pe_ix ix_tup (pv 1) pe_int (fun _ _ => rfl)))
      (pe_op op_mul (pe_ix ix_tup (pv 1) pe_int (fun _ _ => rfl)) (pe_ix ix_tup (pv 0) pe_int (fun _ _ => rfl))))
    (pa_cons (pe_op op_mul (pe_ix ix_tup (pv 0) pe_int (fun _ _ => rfl)) (pe_ix ix_tup (pv 1) pe_int (fun _ _ => rfl))) pa_nil)))), ?_⟩
  walk_at "rd"
  refine ⟨u, rfl, hu.ix0 ⟨v, rfl, hv.ix1 ⟨a, 1, rfl, rfl, .inr ⟨by decide, by decide⟩, v, rfl, hv.ix0 ⟨u, rfl, hu.ix1 ⟨c, b, rfl, rfl, .inl ⟨by omega, by omega⟩, _, _, rfl, rfl, u, rfl, hu.ix1 ⟨v, rfl, hv.ix1 ⟨b, 1, rfl, rfl, .inr ⟨by decide, by decide⟩, ?_⟩⟩⟩⟩⟩⟩⟩
  exact ⟨_, _, rfl, by omega, by omega, fun z x y H' s1 p1 l1 => q z x y H' s1 p1 l1⟩
theorem scMul : FnScope ["_law_one", "_law_two"] ["_law_one", "_law_two"] (defScope sMul) := ⟨rfl, rfl, rfl, by decide +kernel, rfl, by decide +kernel, by decide +kernel⟩
theorem ok_mul (D : Def K mg "_law_mul" sMul ["_law_one", "_law_two"]) (c1 : Cal P w K mg base "_law_lean" 2 ["_law_top", "_law_low"] spLean) : Cal P w K mg base "_law_mul" 3 ["_law_one", "_law_two"] spMul := by
  refine D.ok scMul (fun vs H Q E h => ?_) (fun f cdv A out s H vs Q E hr h => ?_)
  · obtain ⟨u, v, a, b, n, m, rfl, _⟩ := h; rfl
  obtain ⟨u, v, a, b, n, m, rfl, hu, hv, b0, b1, hn, hm, q⟩ := h
  refine ⟨_, pss_one (ps_ret (pe_cal c1 hr (Nat.le_refl 2) (by rfl) (pa_cons (pe_op op_mul (pe_ix ix_tup (pv 0) pe_int (fun _ _ => rfl)) (pe_ix ix_tup (pv 1) pe_int (fun _ _ => rfl)))
    (pa_cons (pe_op op_mul (pe_ix ix_tup (pv 0) pe_int (fun _ _ => rfl)) (pe_ix ix_tup (pv 1) pe_int (fun _ _ => rfl))) pa_nil)))), ?_⟩
  walk_at "rd"
  refine ⟨u, rfl, hu.ix0 ⟨v, rfl, hv.ix0 ⟨a, n, rfl, rfl, .inr ⟨by omega, by omega⟩, u, rfl, hu.ix1 ⟨v, rfl, hv.ix1 ⟨b, m, rfl, rfl, .inr ⟨by omega, by omega⟩, ?_⟩⟩⟩⟩⟩
  exact ⟨_, _, rfl, b0, b1, fun z x y H' s1 p1 l1 => q z x y H' s1 p1 l1⟩
end
end K22

set_option Elab.async false
set_option linter.all false
set_option maxRecDepth 100000
set_option maxHeartbeats 4000000
local macro_rules | `(tactic| walk_at "rd") => `(tactic| dsimp only [Evl.tCut, L2.tSeq, L2.tNext, L2.tRet, L2.tRetN, L2.tAsg, L2.gName, L2.tIfS, L2.tDrop, L2.tCons, L2.tNil, L2.tC, L2.tVar, L2.tCB, L2.tAndV, L2.tOrV, L2.tNotV, L2.tB, L2.tTest, L2.tOp, L2.tUn, L2.tNot, L2.tAnd, L2.tOr, L2.tIf, L2.tCall, L2.tTup, L2.tLst, L2.tNotT, L2.tYes, L2.gTup, L2.gCons, L2.gNil, L2.gSub, L2.tBM0, L2.tBM, L2.tWhile, L2.tFor, L2.iRng1, L2.tPar, L2.tPar3, L2.tSl, L2.tNoPart, L2.tPart, Tw.tRevT])
namespace K22
open PySem PySem.Spec PyProof.Rows L2 Tw
/-! lists of values that stand for things -/
section
variable {α β : Type}
def RelA (R : Hp → V → α → Prop) (H : Hp) (xs : List V) (rs : List α) : Prop := xs.length = rs.length ∧ ∀ (i : Nat) v, xs[i]? = some v → ∃ r, rs[i]? = some r ∧ R H v r
def Stable (R : Hp → V → α → Prop) : Prop := ∀ H H' v r, Kt H H' → R H v r → R H' v r
theorem RelA.kt {R : Hp → V → α → Prop} (st : Stable R) {H H' : Hp} {xs : List V} {rs : List α} (k : Kt H H') (h : RelA R H xs rs) : RelA R H' xs rs :=
  ⟨h.1, fun i v e => let ⟨r, e1, e2⟩ := h.2 i v e; ⟨r, e1, st _ _ _ _ k e2⟩⟩
theorem RelA.snoc {R : Hp → V → α → Prop} {H : Hp} {xs : List V} {rs : List α} {v : V} {r : α} (h : RelA R H xs rs) (g : R H v r) : RelA R H (xs ++ [v]) (rs ++ [r]) := by
  obtain ⟨h1, h2⟩ := h
  refine ⟨by simp [h1], fun i u e => ?_⟩
  rcases Nat.lt_trichotomy i xs.length with c | c | c
  · rw [List.getElem?_append_left c] at e
    obtain ⟨r', e1, e2⟩ := h2 i u e
    exact ⟨r', by rw [List.getElem?_append_left (by omega)]; exact e1, e2⟩
  · subst c
    rw [List.getElem?_append_right (Nat.le_refl _), Nat.sub_self] at e
    cases e
    refine ⟨r, ?_, g⟩
    rw [h1, List.getElem?_append_right (Nat.le_refl _), Nat.sub_self]
    rfl
  · rw [List.getElem?_eq_none (by simp; omega)] at e
    cases e
theorem RelA.eq_map {f : α → V} {H : Hp} : ∀ {xs : List V} {rs : List α}, RelA (fun _ v r => v = f r) H xs rs → xs = rs.map f
  | [], [], _ => rfl
  | [], r :: rs, h => by have := h.1; simp at this
  | x :: xs, [], h => by have := h.1; simp at this
  | x :: xs, r :: rs, h => by
    obtain ⟨r', e1, e2⟩ := h.2 0 x rfl
    cases e1
    rw [List.map_cons, e2, RelA.eq_map (rs := rs) (xs := xs) (H := H) ⟨by have := h.1; simpa using this, fun i v e => by
      obtain ⟨r', e1, e2⟩ := h.2 (i + 1) v (by simpa using e)
      exact ⟨r', by simpa using e1, e2⟩⟩]
theorem RelA.of_map {f : α → V} {H : Hp} (rs : List α) : RelA (fun _ v r => v = f r) H (rs.map f) rs := ⟨by simp, fun i v e => by
  rw [List.getElem?_map] at e
  cases er : rs[i]? with
  | none => rw [er] at e; cases e
  | some r => rw [er] at e; cases e; exact ⟨r, rfl, rfl⟩⟩
theorem RelA.map {R : Hp → V → α → Prop} {H : Hp} {xs : List V} {rs : List α} (g : α → β) (S : Hp → V → β → Prop) (k : ∀ v r, r ∈ rs → R H v r → S H v (g r)) (h : RelA R H xs rs) : RelA S H xs (rs.map g) :=
  ⟨by rw [List.length_map]; exact h.1, fun i v e => by
    obtain ⟨r, e1, e2⟩ := h.2 i v e
    exact ⟨g r, by rw [List.getElem?_map, e1]; rfl, k v r (List.mem_of_getElem? e1) e2⟩⟩
theorem stable_eq (f : α → V) : Stable (fun _ v r => v = f r) := fun _ _ _ _ _ h => h
theorem stable_ro : Stable Ro := fun _ _ _ _ k h => h.kt k
variable {K : PySem.W.Frag} {te : TE} {i j : Nat} {elt : TE} {vs : List Nat} {σ : L2.St} {H : Hp} {Q : VK} {p : Addr} {xs : List V} {rs : List α} {S : Hp → V → α → Prop} {R : Hp → V → β → Prop} {g : α → β}
theorem rel_step {H1 H2 : Hp} {D : Addr} {m : Nat} {ys : List V} {y : V} {r : α} (sR : Stable R) (nD : H D = none) (hD : H1 D = some (.lst ys)) (s1 : Same H H1) (s2 : Same H1 H2) (er : rs[m]? = some r) (hr : RelA R H1 ys ((rs.take m).map g)) (hy : R H2 y (g r)) :
    H2 D = some (.lst ys) ∧ ys.length = m ∧ Same H (upd H2 D (.lst (ys ++ [y]))) ∧ upd H2 D (.lst (ys ++ [y])) D = some (.lst (ys ++ [y])) ∧ RelA R (upd H2 D (.lst (ys ++ [y]))) (ys ++ [y]) ((rs.take (m + 1)).map g) := by
  have e2 : H2 D = some (.lst ys) := s2 _ _ hD
  have hm : m < rs.length := (List.getElem?_eq_some_iff.mp er).1
  refine ⟨e2, ?_, same_upd (s1.trans s2) nD, upd_same, ?_⟩
  · rw [hr.1, List.length_map, List.length_take]; omega
  · rw [List.take_add_one, er, List.map_append]
    exact ((hr.kt sR (Kt.of s2)).snoc hy).kt sR (kt_upd e2)
/-- [.. for x in t], t a tuple of things -/
theorem lc_relT (sS : Stable S) (sR : Stable R) (hv : σ[i]? = some (some (.ref p))) (ht : H p = some (.tup xs)) (hd : RelA S H xs rs) (hn : rs.length < 100000)
    (hw : ∀ x, wipe ((wipe σ vs).set j (some x)) vs = wipe σ vs)
    (he : ∀ x r H1, r ∈ rs → Same H H1 → S H1 x r → ∀ Z : VK, (∀ y H2, Same H1 H2 → R H2 y (g r) → Z y H2) → elt ((wipe σ vs).set j (some x)) H1 Z)
    (q : ∀ D ys H', Same H H' → H D = none → H' D = some (.lst ys) → RelA R H' ys (rs.map g) → Q (.ref D) H') : tLc (iTup K (tVar i)) (gName j) tYes elt vs σ H Q := by
  refine ⟨.ref p, hv, p, rfl, ⟨xs, SqT.of ht⟩, fun D hD => ?_⟩
  refine lc_tup (xs := xs) (fun m H' => Same H H' ∧ ∃ ys, H' D = some (.lst ys) ∧ RelA R H' ys ((rs.take m).map g)) ⟨same_new hD, [], upd_same, rfl, fun i v e => by simp at e⟩ (fun m H' _ h => SqT.of (h.1 _ _ ht)) (fun m x H1 hx h => ?_) (fun H' h => ?_)
  · obtain ⟨h1, ys, h2, h3⟩ := h
    obtain ⟨r, e1, e2⟩ := hd.2 m x hx
    have hm : m < xs.length := (List.getElem?_eq_some_iff.mp hx).1
    have hx2 := hd.1
    refine ⟨hw x, ?_⟩
    unfold tYes
    simp only [if_true]
    refine he x r H1 (List.mem_of_getElem? e1) h1 (sS _ _ _ _ (Kt.of h1) e2) _ fun y H2 s2 ry => ?_
    obtain ⟨a1, a2, a3, a4, a5⟩ := rel_step sR hD h2 h1 s2 e1 h3 ry
    exact ⟨ys, a1, lt_line (by omega), a3, _, a4, a5⟩
  · obtain ⟨h1, ys, h2, h3⟩ := h
    rw [hd.1, List.take_length] at h3
    exact q D ys H' h1 hD h2 h3
/-- .. t a list -/
theorem lc_relL (sS : Stable S) (sR : Stable R) (hv : σ[i]? = some (some (.ref p))) (ht : H p = some (.lst xs)) (hd : RelA S H xs rs) (hn : rs.length < 100000)
    (hw : ∀ x, wipe ((wipe σ vs).set j (some x)) vs = wipe σ vs)
    (he : ∀ x r H1, r ∈ rs → Same H H1 → S H1 x r → ∀ Z : VK, (∀ y H2, Same H1 H2 → R H2 y (g r) → Z y H2) → elt ((wipe σ vs).set j (some x)) H1 Z)
    (q : ∀ D ys H', Same H H' → H D = none → H' D = some (.lst ys) → RelA R H' ys (rs.map g) → Q (.ref D) H') : tLc (iList K (tVar i)) (gName j) tYes elt vs σ H Q := by
  refine ⟨.ref p, hv, p, rfl, ⟨xs, SqL.of ht⟩, fun D hD => ?_⟩
  refine lc_list (xs := xs) (fun m H' => Same H H' ∧ ∃ ys, H' D = some (.lst ys) ∧ RelA R H' ys ((rs.take m).map g)) ⟨same_new hD, [], upd_same, rfl, fun i v e => by simp at e⟩ (fun m H' _ h => SqL.of (h.1 _ _ ht)) (fun m x H1 hx h => ?_) (fun H' h => ?_)
  · obtain ⟨h1, ys, h2, h3⟩ := h
    obtain ⟨r, e1, e2⟩ := hd.2 m x hx
    have hm : m < xs.length := (List.getElem?_eq_some_iff.mp hx).1
    have hx2 := hd.1
    refine ⟨hw x, ?_⟩
    unfold tYes
    simp only [if_true]
    refine he x r H1 (List.mem_of_getElem? e1) h1 (sS _ _ _ _ (Kt.of h1) e2) _ fun y H2 s2 ry => ?_
    obtain ⟨a1, a2, a3, a4, a5⟩ := rel_step sR hD h2 h1 s2 e1 h3 ry
    exact ⟨ys, a1, lt_line (by omega), a3, _, a4, a5⟩
  · obtain ⟨h1, ys, h2, h3⟩ := h
    rw [hd.1, List.take_length] at h3
    exact q D ys H' h1 hD h2 h3
end
/-! a small fraction; a row's worth at one -/
def Sp1 (n m : Int) : Prop := n.natAbs ≤ 12 ∧ 0 < m ∧ m ≤ 7 ∧ Nat.gcd n.natAbs m.natAbs = 1
def spSmall : Sp := fun vs H Q _ => ∃ a, vs = [.ref a] ∧ We a H ∧ ∀ v n m H', Kp a H H' → We a H' → Pr H' v n m → Sp1 n m → Q v H'
def spAt : Sp := fun vs H Q _ => ∃ u v r n m, vs = [u, v] ∧ Ro H u r ∧ Pr H v n m ∧ Sp1 n m ∧ r.length ≤ 8 ∧ (∀ c ∈ r, c.natAbs < 2 ^ 64) ∧ ∀ z a b H', Same H H' → Pr H' z a b → Lo a b (T n m r * m) (m ^ r.length) → Q z H'
section
variable {P : Program} {w : World} {K : PySem.W.Frag} {mg : Str → Option Value} {base : Heap}
theorem scSmall : FnScope ["_law_well_here"] ["_law_well_here"] (defScope sSmall) := ⟨rfl, rfl, rfl, by decide +kernel, rfl, by decide +kernel, by decide +kernel⟩
theorem ok_small (D : Def K mg "_law_small" sSmall ["_law_well_here"]) (c1 : Cal P w K mg base "_law_draw" 1 ["_law_well_here", "_law_many"] spDraw) (c2 : Cal P w K mg base "_law_lean" 2 ["_law_top", "_law_low"] spLean) : Cal P w K mg base "_law_small" 3 ["_law_well_here"] spSmall := by
  refine D.ok scSmall (fun vs H Q E h => ?_) (fun f cdv A out s H vs Q E hr h => ?_)
  · obtain ⟨a, rfl, _⟩ := h; rfl
  obtain ⟨a, rfl, hw, q⟩ := h
  refine ⟨_, pss_cons (ps_if (pt_cmpR op_gt (pe_cal c1 hr (by decide) (by rfl) (pa_cons (pv 0) (pa_cons pe_int pa_nil))) pe_int (nomark _))
      (pss_one (ps_ret (pe_tup (pa_cons (pe_op op_sub (pe_cal c1 hr (by decide) (by rfl) (pa_cons (pv 0) (pa_cons pe_int pa_nil))) pe_int) (pa_cons pe_int pa_nil))))) pss_nil)
    (pss_one (ps_ret (pe_cal c2 hr (by decide) (by rfl) (pa_cons (pe_op op_sub (pe_cal c1 hr (by decide) (by rfl) (pa_cons (pv 0) (pa_cons pe_int pa_nil))) pe_int)
      (pa_cons (pe_op op_add pe_int (pe_cal c1 hr (by decide) (by rfl) (pa_cons (pv 0) (pa_cons pe_int pa_nil)))) pa_nil))))), ?_⟩
  walk_at "rd"
  refine ⟨.ref a, rfl, a, _, rfl, hw, by decide, by decide, fun d H1 d0 d1 k1 w1 => ?_⟩
  refine ⟨_, _, rfl, rfl, _, rfl, ite2 (fun c => ?_) (fun c => ?_)⟩
  · refine ⟨.ref a, rfl, a, _, rfl, w1, by decide, by decide, fun d2 H2 e0 e1 k2 w2 => ?_⟩
    refine ⟨d2, _, rfl, rfl, sz (by simp), fun t nt => ?_⟩
    exact q _ (d2 - 3) 1 _ ((k1.trans k2).trans (kp_new nt)) (we_new w2 nt) ⟨t, rfl, upd_same⟩ ⟨by omega, by decide, by decide, by simp⟩
  · refine ⟨.ref a, rfl, a, _, rfl, w1, by decide, by decide, fun d2 H2 e0 e1 k2 w2 => ?_⟩
    refine ⟨d2, _, rfl, rfl, .ref a, rfl, a, _, rfl, w2, by decide, by decide, fun d3 H3 f0 f1 k3 w3 => ?_⟩
    refine ⟨1, d3, rfl, rfl, d2 - 12, 1 + d3, rfl, by omega, by omega, fun v x y H4 s4 p4 l4 => ?_⟩
    have sh := lo_share l4 (by omega)
    have g0 : 0 < Nat.gcd (d2 - 12).natAbs (1 + d3).natAbs := Nat.gcd_pos_of_pos_right _ (by omega)
    have hx : x.natAbs ≤ (d2 - 12).natAbs := by
      have e := congrArg Int.natAbs sh.2
      rw [Int.natAbs_mul, Int.natAbs_natCast] at e
      rw [← e]
      exact Nat.le_mul_of_pos_right _ g0
    have hy := lo_le l4 (by omega)
    exact q v x y H4 ((k1.trans (k2.trans k3)).trans (Kp.of s4)) (w3.to s4) p4 ⟨by omega, l4.1, by omega, l4.2.1⟩
theorem drop_top {r : List Int} {k : Nat} (h : k < r.length) : r.drop (r.length - (k + 1)) = r[r.length - 1 - k] :: r.drop (r.length - k) := by
  have e : r.length - (k + 1) = r.length - 1 - k := by omega
  rw [e, List.drop_eq_getElem_cons (by omega)]
  congr 2
  omega
theorem scAt : FnScope ["_law_row_here", "_law_spot", "_law_made", "_law_k"] ["_law_row_here", "_law_spot"] (defScope sAt) := ⟨rfl, rfl, rfl, by decide +kernel, rfl, by decide +kernel, by decide +kernel⟩
theorem ok_at (D : Def K mg "_law_at" sAt ["_law_row_here", "_law_spot"]) (nb : Nb mg) (c1 : Cal P w K mg base "_law_add" 3 ["_law_one", "_law_two"] spAdd) (c2 : Cal P w K mg base "_law_mul" 3 ["_law_one", "_law_two"] spMul) : Cal P w K mg base "_law_at" 4 ["_law_row_here", "_law_spot"] spAt := by
  refine D.ok scAt (fun vs H Q E h => ?_) (fun f cdv A out s H vs Q E hr h => ?_)
  · obtain ⟨u, v, r, n, m, rfl, _⟩ := h; rfl
  obtain ⟨u, v, r, n, m, rfl, hu, hv, ⟨n1, m0, m1, cop⟩, hl, hc, q⟩ := h
  refine ⟨_, pss_cons (ps_set (i := 2) scAt.nd rfl (Or.inl rfl) (pe_tup (pa_cons pe_int (pa_cons pe_int pa_nil))))
    (pss_cons (ps_for PassesOwn.never rfl (pi_range1 (by rfl) nb.rng (pa_cons (pe_callB (id := "len") call_len_seq (by rfl) nb.len PySem.boot_len (pa_cons (pv 0) pa_nil)) pa_nil))
        (pg_name (i := 3) scAt.nd rfl (Or.inl rfl))
        (pss_one (ps_set (i := 2) scAt.nd rfl (Or.inl rfl) (pe_cal c1 hr (by decide) (by rfl) (pa_cons (pe_cal c2 hr (by decide) (by rfl) (pa_cons (pv 2) (pa_cons (pv 1) pa_nil)))
          (pa_cons (pe_tup (pa_cons (pe_ix ix_tup (pv 0) (pe_op op_sub (pe_op op_sub (pe_callB (id := "len") call_len_seq (by rfl) nb.len PySem.boot_len (pa_cons (pv 0) pa_nil)) pe_int) (pv 3)) (fun _ _ => rfl)) (pa_cons pe_int pa_nil))) pa_nil))))))
    (pss_one (ps_ret (pv 2)))), ?_⟩
  walk_at "rd"
  refine ⟨sz (by simp), fun t0 nt0 => ?_⟩
  have s0 := same_new (o := .tup [.int 0, .int 1]) nt0
  have p0 : Pr (upd H t0 (.tup [.int 0, .int 1])) (.ref t0) 0 1 := ⟨t0, rfl, upd_same⟩
  generalize upd H t0 _ = H0 at s0 p0 ⊢
  obtain ⟨pu, rfl, eu⟩ := hu
  refine ⟨.ref pu, rfl, pu, _, rfl, .inr (SqT.of (s0 _ _ eu)), ((r.map V.int).length : Int), rfl, by omega, by rw [List.length_map]; omega, ?_⟩
  refine for_rng (lo := 0) (n := ((r.map V.int).length : Int).toNat) (fun k σ H' => ∃ (z : V) (x3 : Option V) (a b : Int), σ = [some (.ref pu), some v, some z, x3] ∧ Same H H' ∧ Pr H' z a b ∧ Lo a b (T n m (r.drop (r.length - k)) * m) (m ^ (r.drop (r.length - k)).length)) ?_ ?_ ?_
  · exact ⟨.ref t0, none, 0, 1, rfl, s0, p0, by
      rw [Nat.sub_zero, List.drop_length]
      exact ⟨by decide, by decide, by simp [T]⟩⟩
  · rintro k σ H1 hk ⟨z, x3, a, b, rfl, s1, p1, l1⟩
    have hk : k < r.length := by rw [List.length_map] at hk; omega
    walk_at "rd"
    have ls : (r.drop (r.length - k)).length = k := by rw [List.length_drop]; omega
    have dt := drop_top hk
    generalize hs : r.drop (r.length - k) = sfx at l1 ls dt
    have dpos : 0 < m ^ sfx.length := pow_pos' m0 _
    have bl := lo_le l1 dpos
    have b0 := l1.1
    have pl : m ^ sfx.length ≤ 7 ^ 7 := Int.le_trans (pow_le7 m0 m1 _) (pow_mono7 (by omega))
    have bm : b * m ≤ 7 ^ 7 * 7 := Int.mul_le_mul (by omega) m1 (by omega) (by omega)
    have bm0 : 0 < b * m := Int.mul_pos b0 m0
    refine ⟨z, rfl, v, rfl, z, v, a, b, n, m, rfl, p1, hv.kt (Kt.of s1), bm0, by omega, by omega, by omega, fun z2 x y H2 s2 p2 l2 => ?_⟩
    have l3 := lo_mul l1 l2
    have yl := lo_le l2 bm0
    refine ⟨.ref pu, rfl, .ref pu, rfl, pu, _, rfl, .inr (SqT.of ((s1.trans s2) _ _ eu)), _, 1, rfl, rfl, .int (0 + (k : Int)), rfl, _, _, rfl, rfl, ?_⟩
    have ek : ((r.map V.int).length : Int) - 1 - (0 + (k : Int)) = ((r.length - 1 - k : Nat) : Int) := by rw [List.length_map]; omega
    walk_at "rd"
    rw [ek]
    have hix : r.length - 1 - k < r.length := by omega
    refine ⟨pu, _, _, .int r[r.length - 1 - k], rfl, rfl, SqT.of ((s1.trans s2) _ _ eu), atI_nat (by rw [List.getElem?_map, List.getElem?_eq_getElem hix]; rfl), sz (by simp), fun t nt => ?_⟩
    have s3 := s2.trans (same_new (o := .tup [.int r[r.length - 1 - k], .int 1]) nt)
    refine ⟨z2, .ref t, x, y, r[r.length - 1 - k], rfl, p2.kt (Kt.of (same_new nt)), ⟨t, rfl, upd_same⟩, l2.1, by omega, hc _ (List.getElem_mem _), fun z3 x2 y2 H3 s4 p4 l4 => ?_⟩
    have l5 := lo_add l3 l4
    refine ⟨z3, some (.int (0 + (k : Int))), x2, y2, rfl, s1.trans (s3.trans s4), p4, ?_⟩
    rw [dt, T, List.length_cons, Int.pow_succ]
    have e1 : T n m sfx * m * n + r[r.length - 1 - k] * (m ^ sfx.length * m) = (T n m sfx * n + r[r.length - 1 - k] * m ^ sfx.length) * m := by grind
    rw [e1] at l5
    exact l5
  · rintro σ H1 ⟨z, x3, a, b, rfl, s1, p1, l1⟩
    refine ⟨z, rfl, q z a b H1 s1 p1 ?_⟩
    have e : r.length - ((r.map V.int).length : Int).toNat = 0 := by rw [List.length_map]; omega
    rw [e, List.drop_zero] at l1
    exact l1
end
end K22

set_option Elab.async false
set_option linter.all false
set_option maxRecDepth 100000
set_option maxHeartbeats 4000000
local macro_rules | `(tactic| walk_at "rd") => `(tactic| dsimp only [Evl.tCut, L2.tSeq, L2.tNext, L2.tRet, L2.tRetN, L2.tAsg, L2.gName, L2.tIfS, L2.tDrop, L2.tCons, L2.tNil, L2.tC, L2.tVar, L2.tCB, L2.tAndV, L2.tOrV, L2.tNotV, L2.tB, L2.tTest, L2.tOp, L2.tUn, L2.tNot, L2.tAnd, L2.tOr, L2.tIf, L2.tCall, L2.tTup, L2.tLst, L2.tNotT, L2.tYes, L2.gTup, L2.gCons, L2.gNil, L2.gSub, L2.tBM0, L2.tBM, L2.tWhile, L2.tFor, L2.iRng1, L2.tPar, L2.tPar3, L2.tSl, L2.tNoPart, L2.tPart, Tw.tRevT])
namespace K22
open PySem PySem.Spec PyProof.Rows L2 Tw
def spTurned : Sp := fun vs H Q _ => ∃ u p b, vs = [u] ∧ Po H u p ∧ (∃ a, We a H) ∧ Bd 8 b p ∧ ∀ v H', Same H H' → Po H' v (exch p) → Q v H'
def rLn (K : PySem.W.Frag) : List V → Hp → VK → Prop := fun xs H Q => ∃ p ys, xs = [.ref p] ∧ (SqL K H p ys ∨ SqT K H p ys) ∧ Q (.int ys.length) H
theorem wipeJ (σ : L2.St) (j : Nat) (x : Option V) : wipe ((wipe σ [j]).set j x) [j] = wipe σ [j] := by
  show ((σ.set j none).set j x).set j none = σ.set j none
  rw [List.set_set, List.set_set]
section
variable {P : Program} {w : World} {K : PySem.W.Frag} {mg : Str → Option Value} {base : Heap}
theorem scTurned : FnScope ["_law_some", "_law_made", "_law_k", "_law_row_here"] ["_law_some"] (defScope sTurned) := ⟨rfl, rfl, rfl, by decide +kernel, rfl, by decide +kernel, by decide +kernel⟩
theorem ok_turned (D : Def K mg "_law_turned" sTurned ["_law_some"]) (nb : Nb mg) (c1 : Cal P w K mg base "_law_trim" 1 ["_law_some"] spTrim) : Cal P w K mg base "_law_turned" 2 ["_law_some"] spTurned := by
  have c2 := c1.imp trim_int
  have c3 := c1.imp trim_rows
  refine D.ok scTurned (fun vs H Q E h => ?_) (fun f cdv A out s H vs Q E hr h => ?_)
  · obtain ⟨u, p, b, rfl, _⟩ := h; rfl
  obtain ⟨u, p, b, rfl, hp, ⟨wa, hw⟩, hb, q⟩ := h
  refine ⟨_, pss_cons (ps_set (i := 1) scTurned.nd rfl (Or.inl rfl) (pe_lst pa_nil))
    (pss_cons (ps_for PassesOwn.never rfl (pi_range1 (by rfl) nb.rng (pa_cons (pe_callB (id := "max") (r := rMax K) (cr_max rfl) (by rfl) nb.max (by decide +kernel) (pa_cons (pe_op op_cat (pe_lst (pa_cons pe_int pa_nil))
          (pe_lc (own := [("_law_row_here", 3)]) (g := gName 3) (tt := tYes) rfl scTurned.nd (pi_tup (pv 0)) (blkOk_by (N := ["_law_some", "_law_made", "_law_k", "_law_row_here"]) (sc := defScope sTurned) (by decide +kernel))
            (fun _ _ _ _ _ => pg_name (i := 3) scTurned.nd rfl (Or.inl rfl)) (fun _ _ _ _ _ => pts_nil) (fun _ _ _ _ _ => pe_callB (id := "len") (r := rLn K) call_len_seq (by rfl) nb.len PySem.boot_len (pa_cons (pv 3) pa_nil)))) pa_nil)) pa_nil))
        (pg_name (i := 2) scTurned.nd rfl (Or.inr rfl))
        (pss_one (ps_expr (pe_bm PySem.F.plainAttrs_list PySem.F.slot_list_append PySem.F.type_list_append mt_append (pv 1) (pa_cons (pe_cal c2 hr (by decide) (by rfl) (pa_cons
          (pe_lc (own := [("_law_row_here", 3)]) (g := gName 3) (tt := tYes) rfl scTurned.nd (pi_tup (pv 0)) (blkOk_by (N := ["_law_some", "_law_made", "_law_k", "_law_row_here"]) (sc := defScope sTurned) (by decide +kernel))
            (fun _ _ _ _ _ => pg_name (i := 3) scTurned.nd rfl (Or.inl rfl)) (fun _ _ _ _ _ => pts_nil)
            (fun _ _ _ _ _ => pe_ifExp (pt_cmpR op_lt (pv 2) (pe_callB (id := "len") (r := rLn K) call_len_seq (by rfl) nb.len PySem.boot_len (pa_cons (pv 3) pa_nil)) (nomark _)) (pe_ix (r := rIxT K) ix_tup (pv 3) (pv 2) (fun _ _ => rfl)) pe_int)) pa_nil)) pa_nil)))))
    (pss_one (ps_ret (pe_cal c3 hr (by decide) (by rfl) (pa_cons (pv 1) pa_nil))))), ?_⟩
  walk_at "rd"
  obtain ⟨pu, xs, rfl, eu, hx⟩ := hp
  refine ⟨sz (by simp), fun L nL => ?_⟩
  have s0 := same_new (o := .lst []) nL
  have eL : upd H L (.lst []) L = some (.lst []) := upd_same
  generalize upd H L (.lst []) = H0 at s0 eL ⊢
  refine ⟨sz (by simp), fun L1 nL1 => ?_⟩
  have s1 := same_new (o := .lst [.int 0]) nL1
  have eL1 : upd H0 L1 (.lst [.int 0]) L1 = some (.lst [.int 0]) := upd_same
  generalize upd H0 L1 (.lst [.int 0]) = H1 at s1 eL1 ⊢
  have hx1 := RoA.kt (Kt.of (s0.trans s1)) hx
  have lb := hb.1
  refine lc_relT (S := Ro) (R := fun _ v k => v = V.int k) (g := fun r => ((r.length : Nat) : Int)) (rs := p) (p := pu) (xs := xs) stable_ro (stable_eq _) rfl ((s0.trans s1) _ _ eu) hx1 (by omega) (fun x => wipeJ _ _ _) (fun x r H2 hr2 s2 rx Z hZ => ?_) fun D ys H2 s2 nD eD ry => ?_
  · obtain ⟨pr, rfl, er⟩ := rx
    exact ⟨.ref pr, rfl, pr, _, rfl, .inr (SqT.of er), hZ _ _ (Same.refl _) (by rw [List.length_map])⟩
  have ey : ys = (p.map fun r => ((r.length : Nat) : Int)).map V.int := RelA.eq_map ry
  subst ey
  refine ⟨L1, D, _, _, rfl, rfl, s2 _ _ eL1, eD, sz (by simp; omega), fun D2 nD2 => ?_⟩
  have s3 := ((s0.trans s1).trans s2).trans (same_new (o := .lst ([.int 0] ++ (p.map fun r => ((r.length : Nat) : Int)).map V.int)) nD2)
  have eD2 : upd H2 D2 (.lst ([.int 0] ++ (p.map fun r => ((r.length : Nat) : Int)).map V.int)) D2 = some (.lst (((0 : Int) :: p.map fun r => ((r.length : Nat) : Int)).map V.int)) := upd_same
  have eL3 : upd H2 D2 (.lst ([.int 0] ++ (p.map fun r => ((r.length : Nat) : Int)).map V.int)) L = some (.lst []) := ((s1.trans s2).trans (same_new nD2)) _ _ eL
  generalize upd H2 D2 _ = H3 at s3 eD2 eL3 ⊢
  refine ⟨D2, _, rfl, SqL.of eD2, by simp, fun k k1 k2 => ?_⟩
  have ek := max_lng k1 k2
  subst ek
  have l8 : lng p ≤ 8 := lng_bd fun r hr => (hb.2 r hr).1
  refine ⟨_, rfl, by omega, by omega, for_rng (lo := 0) (n := (lng p : Int).toNat) (fun i σ H' => ∃ (x2 : Option V) (ys : List V), σ = [some (.ref pu), some (.ref L), x2, none] ∧ Same H H' ∧ H' L = some (.lst ys) ∧ RelA Ro H' ys ((List.range i).map (col p))) ?_ ?_ ?_⟩
  · exact ⟨none, [], rfl, s3, eL3, rfl, fun i v e => by simp at e⟩
  · rintro i σ H4 hi ⟨x2, ys, rfl, s4, e4, r4⟩
    walk_at "rd"
    refine ⟨.ref L, rfl, .inl ⟨rfl, _, SqL.of e4⟩, ?_⟩
    refine lc_relT (S := Ro) (R := fun _ v k => v = V.int k) (g := fun r => r.getD i 0) (rs := p) (p := pu) (xs := xs) stable_ro (stable_eq _) rfl (s4 _ _ eu) (RoA.kt (Kt.of s4) hx) (by omega) (fun x => wipeJ _ _ _) (fun x r H5 hr5 s5 rx Z hZ => ?_) fun D ys2 H5 s5 nD eD ry => ?_
    · obtain ⟨pr, rfl, er⟩ := rx
      walk_at "rd"
      refine ⟨.int (0 + (i : Int)), rfl, .ref pr, rfl, pr, _, rfl, .inr (SqT.of er), _, _, rfl, rfl, _, rfl, ite2 (fun c => ?_) (fun c => ?_)⟩
      · have c := of_decide_eq_true c
        rw [List.length_map] at c
        have hi2 : i < r.length := by omega
        refine ⟨.ref pr, rfl, .int (0 + (i : Int)), rfl, pr, _, _, .int (r.getD i 0), rfl, rfl, SqT.of er, ?_, hZ _ _ (Same.refl _) rfl⟩
        rw [Int.zero_add]
        refine atI_nat ?_
        rw [List.getElem?_map, List.getElem?_eq_getElem hi2, List.getD_eq_getElem?_getD, List.getElem?_eq_getElem hi2]
        rfl
      · have c : ¬ (i < r.length) := fun z => c (decide_eq_true (by rw [List.length_map]; omega))
        refine hZ _ _ (Same.refl _) ?_
        rw [List.getD_eq_getElem?_getD, List.getElem?_eq_none (by omega)]
        rfl
    have ey : ys2 = (p.map fun r => r.getD i 0).map V.int := RelA.eq_map ry
    subst ey
    refine ⟨D, _, rfl, eD, fun v H6 s6 r6 => ⟨L, ys, v, rfl, rfl, (s5.trans s6) _ _ e4, ?_, ?_⟩⟩
    · have := r4.1
      rw [List.length_map, List.length_range] at this
      exact lt_line (by omega)
    · have e6 := (s5.trans s6) _ _ e4
      refine ⟨some (.int (0 + (i : Int))), ys ++ [v], rfl, ?_, upd_same, ?_⟩
      · exact same_upd ((s4.trans s5).trans s6) nL
      · rw [List.range_succ, List.map_append]
        exact ((r4.kt stable_ro (Kt.of (s5.trans s6))).snoc r6).kt stable_ro (kt_upd e6)
  · rintro σ H4 ⟨x2, ys, rfl, s4, e4, r4⟩
    exact ⟨.ref L, rfl, L, ys, _, rfl, e4, r4, ⟨wa, hw.to s4⟩, fun v H5 s5 p5 => q v H5 (s4.trans s5) p5⟩
end
end K22

set_option linter.all false
set_option maxRecDepth 10000
/-! rows and polys by their numbers -/
namespace K22
abbrev g (r : List Int) (k : Nat) : Int := r.getD k 0
def rw' (p : List (List Int)) (i : Nat) : List Int := p.getD i []
def co (p : List (List Int)) (i j : Nat) : Int := g (rw' p i) j
theorem g_none {r : List Int} {k : Nat} (h : r.length ≤ k) : g r k = 0 := by
  unfold g
  rw [List.getD_eq_getElem?_getD, List.getElem?_eq_none h]
  rfl
theorem g_some {r : List Int} {k : Nat} (h : k < r.length) : g r k = r[k] := by
  unfold g
  rw [List.getD_eq_getElem?_getD, List.getElem?_eq_getElem h]
  rfl
theorem rw_none {p : List (List Int)} {k : Nat} (h : p.length ≤ k) : rw' p k = [] := by
  unfold rw'
  rw [List.getD_eq_getElem?_getD, List.getElem?_eq_none h]
  rfl
theorem rw_some {p : List (List Int)} {k : Nat} (h : k < p.length) : rw' p k = p[k] := by
  unfold rw'
  rw [List.getD_eq_getElem?_getD, List.getElem?_eq_getElem h]
  rfl
theorem getD_trim {α : Type} (z : α → Bool) (d : α) (hz : ∀ a, z a = true → a = d) : ∀ (l : List α) (k : Nat), (trimBy z l).getD k d = l.getD k d
  | [], k => rfl
  | a :: l, k => by
    have ih := getD_trim z d hz l
    rw [trimBy]
    cases e : trimBy z l with
    | nil =>
      rw [e] at ih
      by_cases c : z a = true
      · rw [if_pos c]
        cases k with
        | zero => simp [hz a c]
        | succ k => simpa using ih k
      · rw [if_neg c]
        cases k with
        | zero => simp
        | succ k => simpa using ih k
    | cons b r =>
      rw [e] at ih
      cases k with
      | zero => simp
      | succ k => simpa using ih k
theorem g_trim (l : List Int) (k : Nat) : g (trimI l) k = g l k := getD_trim _ _ (fun a h => by simpa using h) l k
theorem rw_trim (p : List (List Int)) (k : Nat) : rw' (trimP p) k = rw' p k := getD_trim _ _ (fun a h => by simpa using h) p k
theorem getD_take {α : Type} (d : α) (l : List α) (n k : Nat) (h : ∀ i, n ≤ i → l.getD i d = d) : (l.take n).getD k d = l.getD k d := by
  rw [List.getD_eq_getElem?_getD, List.getElem?_take]
  split
  · rw [List.getD_eq_getElem?_getD]
  · rw [h k (by omega)]
    rfl
/-- a row is known by its numbers -/
theorem row_ext {r s : List Int} (hr : okR r) (hs : okR s) (h : ∀ k, g r k = g s k) : r = s := by
  have half : ∀ {r s : List Int}, okR s → (∀ k, g r k = g s k) → s.length ≤ r.length := fun {r s} hs h => by
    rcases Nat.lt_or_ge r.length s.length with c | c
    · exfalso
      have e : s.getLast? = some s[s.length - 1] := by rw [List.getLast?_eq_getElem?, List.getElem?_eq_getElem (by omega)]
      refine hs _ e ?_
      rw [← g_some (by omega), ← h, g_none (by omega)]
    · exact c
  have l : r.length = s.length := Nat.le_antisymm (half hr fun k => (h k).symm) (half hs h)
  refine List.ext_getElem l fun k h1 h2 => ?_
  rw [← g_some h1, ← g_some h2, h]
theorem okR_nil : okR [] := fun c h => by simp at h
theorem okR_rw {p : List (List Int)} (h : ∀ r ∈ p, okR r) (i : Nat) : okR (rw' p i) := by
  rcases Nat.lt_or_ge i p.length with c | c
  · rw [rw_some c]; exact h _ (List.getElem_mem _)
  · rw [rw_none c]; exact okR_nil
theorem poly_ext {p q : List (List Int)} (hp : okP p) (hq : okP q) (h : ∀ i j, co p i j = co q i j) : p = q := by
  have e : ∀ i, rw' p i = rw' q i := fun i => row_ext (okR_rw hp.1 i) (okR_rw hq.1 i) (h i)
  have half : ∀ {p q : List (List Int)}, okP q → (∀ i, rw' p i = rw' q i) → q.length ≤ p.length := fun {p q} hq h => by
    rcases Nat.lt_or_ge p.length q.length with c | c
    · exfalso
      have e : q.getLast? = some q[q.length - 1] := by rw [List.getLast?_eq_getElem?, List.getElem?_eq_getElem (by omega)]
      refine hq.2 _ e ?_
      rw [← rw_some (by omega), ← h, rw_none (by omega)]
    · exact c
  have l : p.length = q.length := Nat.le_antisymm (half hp fun k => (e k).symm) (half hq e)
  refine List.ext_getElem l fun k h1 h2 => ?_
  rw [← rw_some h1, ← rw_some h2, e]
/-! sums -/
def S : Nat → (Nat → Int) → Int
  | 0, _ => 0
  | n + 1, f => S n f + f n
theorem S_ext {f h : Nat → Int} : ∀ n, (∀ i, i < n → f i = h i) → S n f = S n h
  | 0, _ => rfl
  | n + 1, e => by rw [S, S, S_ext n fun i hi => e i (by omega), e n (by omega)]
theorem S_zero : ∀ n, S n (fun _ => 0) = 0
  | 0 => rfl
  | n + 1 => by rw [S, S_zero n]; rfl
theorem S_more {f : Nat → Int} {n m : Nat} (h : n ≤ m) (z : ∀ i, n ≤ i → f i = 0) : S m f = S n f := by
  induction m with
  | zero => have : n = 0 := by omega
            subst this; rfl
  | succ m ih =>
    rcases Nat.lt_or_ge m n with c | c
    · have : n = m + 1 := by omega
      subst this; rfl
    · rw [S, ih c, z m c, Int.add_zero]
theorem S_add {f h : Nat → Int} : ∀ n, S n (fun i => f i + h i) = S n f + S n h
  | 0 => rfl
  | n + 1 => by rw [S, S, S, S_add n]; omega
theorem S_mul {f : Nat → Int} (c : Int) : ∀ n, S n (fun i => c * f i) = c * S n f
  | 0 => by simp [S]
  | n + 1 => by rw [S, S, S_mul c n, Int.mul_add]
theorem S_shift {f : Nat → Int} : ∀ n, S (n + 1) f = f 0 + S n (fun i => f (i + 1))
  | 0 => by simp [S]
  | n + 1 => by
    rw [S, S_shift n, S]
    omega
theorem S_rev {f : Nat → Int} : ∀ n, S (n + 1) f = S (n + 1) (fun i => f (n - i))
  | 0 => rfl
  | n + 1 => by
    rw [S, S_rev n, S_shift (f := fun i => f (n + 1 - i))]
    have : S (n + 1) (fun i => f (n + 1 - (i + 1))) = S (n + 1) (fun i => f (n - i)) := S_ext _ fun i _ => by rw [Nat.add_sub_add_right]
    rw [this]
    show _ + f (n + 1) = f (n + 1 - 0) + _
    rw [Nat.sub_zero]
    omega
theorem S_comm {f : Nat → Nat → Int} (m : Nat) : ∀ n, S n (fun i => S m (fun j => f i j)) = S m (fun j => S n (fun i => f i j))
  | 0 => by simp only [S]; exact (S_zero m).symm
  | n + 1 => by
    rw [S, S_comm m n, ← S_add]
    rfl
/-- what two rows of numbers make, multiplied -/
def cv (f h : Nat → Int) (k : Nat) : Int := S (k + 1) fun i => f i * h (k - i)
theorem cv_comm (f h : Nat → Int) (k : Nat) : cv f h k = cv h f k := by
  unfold cv
  rw [S_rev]
  refine S_ext _ fun i hi => ?_
  rw [Nat.sub_sub_self (by omega), Int.mul_comm]
/-- the loops' sum -/
theorem cv_loop {f h : Nat → Int} {n : Nat} (z : ∀ i, n ≤ i → f i = 0) (k : Nat) : S n (fun a => if a ≤ k then f a * h (k - a) else 0) = cv f h k := by
  have e1 : S (max n (k + 1)) (fun a => if a ≤ k then f a * h (k - a) else 0) = S n (fun a => if a ≤ k then f a * h (k - a) else 0) := S_more (by omega) fun i hi => by
    rw [z i hi, Int.zero_mul]
    split <;> rfl
  have e2 : S (max n (k + 1)) (fun a => if a ≤ k then f a * h (k - a) else 0) = S (k + 1) (fun a => if a ≤ k then f a * h (k - a) else 0) := S_more (by omega) fun i hi => by
    rw [if_neg (by omega)]
  rw [← e1, e2]
  unfold cv
  exact S_ext _ fun i hi => by rw [if_pos (by omega)]
theorem cv_zero {h : Nat → Int} {f : Nat → Int} (z : ∀ i, f i = 0) (k : Nat) : cv f h k = 0 := by
  unfold cv
  rw [S_ext (h := fun _ => 0) _ fun i _ => by rw [z i, Int.zero_mul], S_zero]
theorem g_set {l : List Int} {n : Nat} {c : Int} (h : n < l.length) (k : Nat) : g (l.set n c) k = if k = n then c else g l k := by
  unfold g
  rw [List.getD_eq_getElem?_getD, List.getD_eq_getElem?_getD, List.getElem?_set]
  by_cases e : n = k
  · subst e
    rw [if_pos rfl, if_pos h, if_pos rfl]
    rfl
  · rw [if_neg e, if_neg (fun z => e z.symm)]
theorem rw_set {l : List (List Int)} {n : Nat} {c : List Int} (h : n < l.length) (k : Nat) : rw' (l.set n c) k = if k = n then c else rw' l k := by
  unfold rw'
  rw [List.getD_eq_getElem?_getD, List.getD_eq_getElem?_getD, List.getElem?_set]
  by_cases e : n = k
  · subst e
    rw [if_pos rfl, if_pos h, if_pos rfl]
    rfl
  · rw [if_neg e, if_neg (fun z => e z.symm)]
end K22

set_option Elab.async false
set_option linter.all false
set_option maxRecDepth 100000
set_option maxHeartbeats 4000000
local macro_rules | `(tactic| walk_at "rd") => `(tactic| dsimp only [Evl.tCut, L2.tSeq, L2.tNext, L2.tRet, L2.tRetN, L2.tAsg, L2.gName, L2.tIfS, L2.tDrop, L2.tCons, L2.tNil, L2.tC, L2.tVar, L2.tCB, L2.tAndV, L2.tOrV, L2.tNotV, L2.tB, L2.tTest, L2.tOp, L2.tUn, L2.tNot, L2.tAnd, L2.tOr, L2.tIf, L2.tCall, L2.tTup, L2.tLst, L2.tNotT, L2.tYes, L2.gTup, L2.gCons, L2.gNil, L2.gSub, L2.tBM0, L2.tBM, L2.tWhile, L2.tFor, L2.iRng1, L2.tPar, L2.tPar3, L2.tSl, L2.tNoPart, L2.tPart, Tw.tRevT])
namespace K22
open PySem PySem.Spec PyProof.Rows L2 Tw
theorem seqT {K : PySem.W.Frag} {H H' : Hp} {a : Addr} {xs : List V} (e : Same H H') (h : SqT K H a xs) : SqT K H' a xs := by
  rcases h with (h | ⟨o, h⟩) | h
  · exact .inl (.inl (e _ _ h))
  · exact .inl (.inr ⟨o, e _ _ h⟩)
  · exact .inr h
def SB (b : Nat) (r : List Int) : Prop := ∀ c ∈ r, c.natAbs ≤ b
def spRSum : Sp := fun vs H Q _ => ∃ u v r s b1 b2, vs = [u, v] ∧ Ro H u r ∧ Ro H v s ∧ r.length ≤ 100 ∧ s.length ≤ 100 ∧ SB b1 r ∧ SB b2 s ∧ ∀ z t H', Same H H' → Ro H' z t → okR t → t.length ≤ max r.length s.length → SB (b1 + b2) t → (∀ k, g t k = g r k + g s k) → Q z H'
def spRTimes : Sp := fun vs H Q _ => ∃ u v r s b1 b2, vs = [u, v] ∧ Ro H u r ∧ Ro H v s ∧ r.length ≤ 100 ∧ s.length ≤ 100 ∧ SB b1 r ∧ SB b2 s ∧ b2 < 2 ^ 64 ∧ ∀ z t H', Same H H' → Ro H' z t → okR t → t.length ≤ r.length + s.length → SB (r.length * s.length * (b1 * b2)) t → (∀ k, g t k = cv (g r) (g s) k) → Q z H'
theorem sb_get {b : Nat} {r : List Int} (h : SB b r) (k : Nat) : (r.getD k 0).natAbs ≤ b := by
  rw [List.getD_eq_getElem?_getD]
  cases e : r[k]? with
  | none => simp
  | some x => exact h x (List.mem_of_getElem? e)
theorem sb_trim {b : Nat} {r : List Int} (h : SB b r) : SB b (trimI r) := fun c hc => h c (trimBy_mem _ _ hc)
section
variable {P : Program} {w : World} {K : PySem.W.Frag} {mg : Str → Option Value} {base : Heap}
theorem flat_one (k : Nat) (x : V) : (List.replicate k [x]).flatten = List.replicate k x := by
  induction k with
  | zero => rfl
  | succ k ih => rw [List.replicate_succ, List.flatten_cons, ih, List.replicate_succ]; rfl
theorem pad_get {r : List Int} {N k : Nat} (hk : k < N) (hr : r.length ≤ N) : (r.map V.int ++ List.replicate (N - r.length) (V.int 0))[k]? = some (.int (r.getD k 0)) := by
  rw [List.getD_eq_getElem?_getD]
  rcases Nat.lt_or_ge k r.length with c | c
  · rw [List.getElem?_append_left (by rw [List.length_map]; exact c), List.getElem?_map, List.getElem?_eq_getElem c]
    rfl
  · rw [List.getElem?_append_right (by rw [List.length_map]; exact c), List.getElem?_replicate, if_pos (by rw [List.length_map]; omega), List.getElem?_eq_none c]
    rfl
/-- one + (0,) * (many - len(one)), as it is read -/
theorem pad_rd {pu : Addr} {r : List Int} {N : Nat} {H : Hp} {Q : VK} (e : H pu = some (.tup (r.map V.int))) (hr : r.length ≤ N) (hN : N ≤ 100) (q : ∀ t H', Same H H' → SqT K H' t (r.map V.int ++ List.replicate (N - r.length) (V.int 0)) → Q (.ref t) H') :
    [V.int 0].length ≤ sizeLine ∧ ∀ p, H p = none → ∀ H1, H1 = upd H p (.tup [.int 0]) → rMulT K (.ref p) (.int ((N - r.length : Nat) : Int)) H1 fun x H2 => rCatA K (.ref pu) x H2 Q := by
  refine ⟨sz (by simp), fun p np H1 e1 => ?_⟩
  subst e1
  have s1 := same_new (o := .tup [.int 0]) np
  refine ⟨p, N - r.length, [.int 0], rfl, rfl, SqT.of upd_same, by simp, by omega, by simp, fun t H2 s2 ht => ?_⟩
  rw [flat_one] at ht
  have s12 := s1.trans s2
  refine ⟨pu, t, r.map V.int, _, rfl, rfl, SqT.of (s12 _ _ e), ht, sz (by simp; omega), fun c => ?_, fun c c2 => ?_, fun c c2 p2 np2 => ?_⟩
  · refine q t H2 s12 ?_
    rw [c, List.nil_append]
    exact ht
  · refine q pu H2 s12 ?_
    rw [c2, List.append_nil]
    exact SqT.of (s12 _ _ e)
  · exact q p2 _ (s12.trans (same_new np2)) (SqT.of upd_same)
theorem scRSum : FnScope ["_law_one", "_law_two", "_law_many", "_law_far", "_law_high", "_law_k"] ["_law_one", "_law_two"] (defScope sRSum) := ⟨rfl, rfl, rfl, by decide +kernel, rfl, by decide +kernel, by decide +kernel⟩
theorem ok_rsum (D : Def K mg "_law_row_sum" sRSum ["_law_one", "_law_two"]) (nb : Nb mg) (c1 : Cal P w K mg base "_law_trim" 1 ["_law_some"] spTrim) : Cal P w K mg base "_law_row_sum" 2 ["_law_one", "_law_two"] spRSum := by
  have c2 := c1.imp trim_int
  refine D.ok scRSum (fun vs H Q E h => ?_) (fun f cdv A out s H vs Q E hr h => ?_)
  · obtain ⟨u, v, r, s, b1, b2, rfl, _⟩ := h; rfl
  obtain ⟨u, v, r, t, b1, b2, rfl, hu, hv, lr, lt, br, bt, q⟩ := h
  refine ⟨_, pss_cons (ps_set (i := 2) scRSum.nd rfl (Or.inl rfl) (pe_callB (id := "max") (call_max2 rfl) (by rfl) nb.max (by decide +kernel) (pa_cons (pe_callB (id := "len") (r := rLn K) call_len_seq (by rfl) nb.len PySem.boot_len (pa_cons (pv 0) pa_nil)) (pa_cons (pe_callB (id := "len") (r := rLn K) call_len_seq (by rfl) nb.len PySem.boot_len (pa_cons (pv 1) pa_nil)) pa_nil))))
    (pss_cons (ps_asg (pe_tup (pa_cons (pe_op (r := rCatA K) op_catA (pv 0) (pe_op (r := rMulT K) op_mulT (pe_tup (pa_cons pe_int pa_nil)) (pe_op op_sub (pv 2) (pe_callB (id := "len") (r := rLn K) call_len_seq (by rfl) nb.len PySem.boot_len (pa_cons (pv 0) pa_nil)))))
          (pa_cons (pe_op (r := rCatA K) op_catA (pv 1) (pe_op (r := rMulT K) op_mulT (pe_tup (pa_cons pe_int pa_nil)) (pe_op op_sub (pv 2) (pe_callB (id := "len") (r := rLn K) call_len_seq (by rfl) nb.len PySem.boot_len (pa_cons (pv 1) pa_nil))))) pa_nil)))
        (pg_tup rfl (pgs_cons (pg_name (i := 3) scRSum.nd rfl (Or.inr rfl)) (pgs_cons (pg_name (i := 4) scRSum.nd rfl (Or.inr rfl)) pgs_nil))))
    (pss_one (ps_ret (pe_cal c2 hr (by decide) (by rfl) (pa_cons
        (pe_lc (own := [("_law_k", 5)]) (g := gName 5) (tt := tYes) rfl scRSum.nd (pi_range1 (by rfl) nb.rng (pa_cons (pv 2) pa_nil)) (blkOk_by (N := ["_law_one", "_law_two", "_law_many", "_law_far", "_law_high", "_law_k"]) (sc := defScope sRSum) (by decide +kernel))
            (fun _ _ _ _ _ => pg_name (i := 5) scRSum.nd rfl (Or.inl rfl)) (fun _ _ _ _ _ => pts_nil)
            (fun _ _ _ _ _ => pe_op op_add (pe_ix (r := rIxT K) ix_tup (pv 3) (pv 5) (fun _ _ => rfl)) (pe_ix (r := rIxT K) ix_tup (pv 4) (pv 5) (fun _ _ => rfl)))) pa_nil))))), ?_⟩
  walk_at "rd"
  obtain ⟨pu, rfl, eu⟩ := hu
  obtain ⟨pw, rfl, ev⟩ := hv
  refine ⟨.ref pu, rfl, pu, _, rfl, .inr (SqT.of eu), .ref pw, rfl, pw, _, rfl, .inr (SqT.of ev), _, _, rfl, ?_⟩
  have em : (if ((t.map V.int).length : Int) > ((r.map V.int).length : Int) then ((t.map V.int).length : Int) else ((r.map V.int).length : Int)) = ((max r.length t.length : Nat) : Int) := by
    rw [List.length_map, List.length_map]
    split <;> omega
  rw [em]
  generalize hN : max r.length t.length = N
  have hrN : r.length ≤ N := by omega
  have htN : t.length ≤ N := by omega
  have hN100 : N ≤ 100 := by omega
  have e1 : (N : Int) - ((r.map V.int).length : Int) = ((N - r.length : Nat) : Int) := by rw [List.length_map]; omega
  have e2 : (N : Int) - ((t.map V.int).length : Int) = ((N - t.length : Nat) : Int) := by rw [List.length_map]; omega
  refine ⟨.ref pu, rfl, sz (by simp), fun p np => ?_⟩
  have s1 := same_new (o := .tup [.int 0]) np
  refine ⟨.int N, rfl, .ref pu, rfl, pu, _, rfl, .inr (SqT.of (s1 _ _ eu)), _, _, rfl, rfl, ?_⟩
  walk_at "rd"
  rw [e1]
  refine (pad_rd (K := K) eu hrN hN100 (fun t1 H1 s1 h1 => ?_)).2 p np _ rfl
  refine ⟨.ref pw, rfl, sz (by simp), fun p2 np2 => ?_⟩
  have s2 := same_new (o := .tup [.int 0]) np2
  refine ⟨.int N, rfl, .ref pw, rfl, pw, _, rfl, .inr (SqT.of ((s1.trans s2) _ _ ev)), _, _, rfl, rfl, ?_⟩
  walk_at "rd"
  rw [e2]
  refine (pad_rd (K := K) (s1 _ _ ev) htN hN100 (fun t2 H2 s2 h2 => ?_)).2 p2 np2 _ rfl
  refine ⟨sz (by simp), fun p3 np3 => ⟨p3, _, rfl, SqT.of upd_same, rfl, _, _, rfl, _, _, rfl, rfl, ?_⟩⟩
  have s3 := same_new (o := .tup [.ref t1, .ref t2]) np3
  have h1' := seqT (s2.trans s3) h1
  have h2' := seqT s3 h2
  refine lc_rng (n := N) (fun k => V.int (r.getD k 0 + t.getD k 0)) (fun R hR => ⟨.int N, rfl, (N : Int), rfl, by omega, by omega, hR⟩) (by omega) (fun x => wipeJ _ _ _) (fun k H4 hk s4 R kR => ?_) fun L H4 s4 nL eL => ?_
  · walk_at "rd"
    rw [Int.zero_add]
    refine ⟨.ref t1, rfl, .int k, rfl, t1, _, k, .int (r.getD k 0), rfl, rfl, seqT s4 h1', atI_nat (pad_get hk hrN), .ref t2, rfl, .int k, rfl, t2, _, k, .int (t.getD k 0), rfl, rfl, seqT s4 h2', atI_nat (pad_get hk htN), _, _, rfl, rfl, kR _ (Same.refl _)⟩
  · refine ⟨L, (List.range N).map fun k => r.getD k 0 + t.getD k 0, rfl, by rw [eL, List.map_map]; rfl, fun z H5 s5 r5 => ?_⟩
    refine q z _ H5 (s1.trans (s2.trans (s3.trans (s4.trans s5)))) r5 (okR_trim _) ?_ (sb_trim fun c hc => ?_) fun k => ?_
    · refine Nat.le_trans (trimBy_len _ _) ?_
      rw [List.length_map, List.length_range]
      omega
    · obtain ⟨k, _, rfl⟩ := List.mem_map.mp hc
      exact Nat.le_trans (Int.natAbs_add_le _ _) (Nat.add_le_add (sb_get br k) (sb_get bt k))
    · rw [g_trim]
      rcases Nat.lt_or_ge k N with c | c
      · rw [g_some (by rw [List.length_map, List.length_range]; exact c), List.getElem_map, List.getElem_range]
      · rw [g_none (by rw [List.length_map, List.length_range]; exact c), g_none (show r.length ≤ k by omega), g_none (show t.length ≤ k by omega)]
        rfl
end
end K22

set_option Elab.async false
set_option linter.all false
set_option maxRecDepth 100000
set_option maxHeartbeats 4000000
local macro_rules | `(tactic| walk_at "rd") => `(tactic| dsimp only [Evl.tCut, L2.tSeq, L2.tNext, L2.tRet, L2.tRetN, L2.tAsg, L2.gName, L2.tIfS, L2.tDrop, L2.tCons, L2.tNil, L2.tC, L2.tVar, L2.tCB, L2.tAndV, L2.tOrV, L2.tNotV, L2.tB, L2.tTest, L2.tOp, L2.tUn, L2.tNot, L2.tAnd, L2.tOr, L2.tIf, L2.tCall, L2.tTup, L2.tLst, L2.tNotT, L2.tYes, L2.gTup, L2.gCons, L2.gNil, L2.gSub, L2.tBM0, L2.tBM, L2.tWhile, L2.tFor, L2.iRng1, L2.tPar, L2.tPar3, L2.tSl, L2.tNoPart, L2.tPart, Tw.tRevT])
namespace K22
open PySem PySem.Spec PyProof.Rows L2 Tw
theorem SB.up {a b : Nat} {r : List Int} (h : SB a r) (l : a ≤ b) : SB b r := fun c hc => Nat.le_trans (h c hc) l
theorem sb_set {b x : Nat} {r : List Int} {c : Int} {k : Nat} (h : SB b r) (hc : c.natAbs ≤ x) (hb : b ≤ x) : SB x (r.set k c) := fun y hy => by
  rcases List.mem_or_eq_of_mem_set hy with hy | hy
  · exact Nat.le_trans (h y hy) hb
  · rw [hy]; exact hc
theorem map_set' (l : List Int) (k : Nat) (c : Int) : (l.map V.int).set k (V.int c) = (l.set k c).map V.int := by rw [List.map_set]
theorem kt_same_upd {H H' : Hp} {L : Addr} {o : HO} (s : Same H H') (n : H L = none) : Same H (upd H' L o) := same_upd s n
section
variable {P : Program} {w : World} {K : PySem.W.Frag} {mg : Str → Option Value} {base : Heap}
theorem scRTimes : FnScope ["_law_one", "_law_two", "_law_made", "_law_k", "_law_n"] ["_law_one", "_law_two"] (defScope sRTimes) := ⟨rfl, rfl, rfl, by decide +kernel, rfl, by decide +kernel, by decide +kernel⟩
theorem ok_rtimes (D : Def K mg "_law_row_times" sRTimes ["_law_one", "_law_two"]) (nb : Nb mg) (c1 : Cal P w K mg base "_law_trim" 1 ["_law_some"] spTrim) : Cal P w K mg base "_law_row_times" 2 ["_law_one", "_law_two"] spRTimes := by
  have c2 := c1.imp trim_int
  refine D.ok scRTimes (fun vs H Q E h => ?_) (fun f cdv A out s H vs Q E hr h => ?_)
  · obtain ⟨u, v, r, s, b1, b2, rfl, _⟩ := h; rfl
  obtain ⟨u, v, r, t, b1, b2, rfl, hu, hv, lr, lt, br, bt, b64, q⟩ := h
  refine ⟨_, pss_cons (ps_set (i := 2) scRTimes.nd rfl (Or.inl rfl) (pe_op op_rep (pe_lst (pa_cons pe_int pa_nil)) (pe_op op_add (pe_callB (id := "len") (r := rLn K) call_len_seq (by rfl) nb.len PySem.boot_len (pa_cons (pv 0) pa_nil)) (pe_callB (id := "len") (r := rLn K) call_len_seq (by rfl) nb.len PySem.boot_len (pa_cons (pv 1) pa_nil)))))
    (pss_cons (ps_for PassesOwn.never rfl (pi_range1 (by rfl) nb.rng (pa_cons (pe_callB (id := "len") (r := rLn K) call_len_seq (by rfl) nb.len PySem.boot_len (pa_cons (pv 0) pa_nil)) pa_nil)) (pg_name (i := 3) scRTimes.nd rfl (Or.inl rfl))
      (pss_one (ps_for PassesOwn.never rfl (pi_range1 (by rfl) nb.rng (pa_cons (pe_callB (id := "len") (r := rLn K) call_len_seq (by rfl) nb.len PySem.boot_len (pa_cons (pv 1) pa_nil)) pa_nil)) (pg_name (i := 4) scRTimes.nd rfl (Or.inl rfl))
        (pss_one (ps_asg (pe_op op_add (pe_ix ix_list (pv 2) (pe_op op_add (pv 3) (pv 4)) (fun _ _ => rfl)) (pe_op op_mul (pe_ix ix_tup (pv 0) (pv 3) (fun _ _ => rfl)) (pe_ix ix_tup (pv 1) (pv 4) (fun _ _ => rfl))))
          (pg_sub (pv 2) (pe_op op_add (pv 3) (pv 4)) set_list))))))
    (pss_one (ps_ret (pe_cal c2 hr (by decide) (by rfl) (pa_cons (pv 2) pa_nil))))), ?_⟩
  walk_at "rd"
  obtain ⟨pu, rfl, eu⟩ := hu
  obtain ⟨pw, rfl, ev⟩ := hv
  refine ⟨sz (by simp), fun L0 nL0 => ?_⟩
  have s0 := same_new (o := .lst [.int 0]) nL0
  refine ⟨.ref pu, rfl, pu, _, rfl, .inr (SqT.of (s0 _ _ eu)), .ref pw, rfl, pw, _, rfl, .inr (SqT.of (s0 _ _ ev)), _, _, rfl, rfl, L0, _, _, rfl, rfl, upd_same, by rw [List.length_map]; omega, by rw [List.length_map, List.length_map]; omega, ?_, fun L nL => ?_⟩
  · have := sz (n := ((r.map V.int).length + (t.map V.int).length)) (by rw [List.length_map, List.length_map]; omega)
    show 1 * _ ≤ _
    rw [Nat.one_mul]
    omega
  have s1 := s0.trans (same_new (o := .lst (List.replicate ((((r.map V.int).length : Nat) : Int) + (((t.map V.int).length : Nat) : Int)).toNat [V.int 0]).flatten) nL)
  have nL' : H L = none := s0.free nL
  have eL : upd (upd H L0 (.lst [.int 0])) L (.lst (List.replicate ((((r.map V.int).length : Nat) : Int) + (((t.map V.int).length : Nat) : Int)).toNat [V.int 0]).flatten) L = some (.lst ((List.replicate (r.length + t.length) (0 : Int)).map V.int)) := by
    rw [upd_same, flat_one, List.map_replicate, List.length_map, List.length_map]
    congr 3
  generalize upd (upd H L0 (.lst [.int 0])) L _ = H1 at s1 eL ⊢
  refine ⟨.ref pu, rfl, pu, _, rfl, .inr (SqT.of (s1 _ _ eu)), ((r.map V.int).length : Int), rfl, by omega, by rw [List.length_map]; omega, ?_⟩
  rw [show (((r.map V.int).length : Nat) : Int).toNat = r.length from by rw [List.length_map]; omega]
  refine for_rng (lo := 0) (n := r.length) (fun i σ H' => ∃ (x3 x4 : Option V) (l : List Int), σ = [some (.ref pu), some (.ref pw), some (.ref L), x3, x4] ∧ Same H H' ∧ H' L = some (.lst (l.map V.int)) ∧ l.length = r.length + t.length ∧ SB (i * t.length * (b1 * b2)) l ∧ ∀ k, g l k = S i (fun a => if a ≤ k then g r a * g t (k - a) else 0)) ?_ ?_ ?_
  · exact ⟨none, none, _, rfl, s1, eL, by simp, fun c hc => by rw [(List.mem_replicate.mp hc).2]; simp, fun k => by
      unfold g
      rw [List.getD_eq_getElem?_getD, List.getElem?_replicate]
      split <;> rfl⟩
  · rintro i σ H2 hi ⟨x3, x4, l, rfl, s2, e2, ll, bl, cl⟩
    walk_at "rd"
    refine ⟨.ref pw, rfl, pw, _, rfl, .inr (SqT.of (s2 _ _ ev)), ((t.map V.int).length : Int), rfl, by omega, by rw [List.length_map]; omega, ?_⟩
    rw [show (((t.map V.int).length : Nat) : Int).toNat = t.length from by rw [List.length_map]; omega]
    refine for_rng (lo := 0) (n := t.length) (fun j σ H' => ∃ (x4 : Option V) (l : List Int), σ = [some (.ref pu), some (.ref pw), some (.ref L), some (.int (0 + (i : Int))), x4] ∧ Same H H' ∧ H' L = some (.lst (l.map V.int)) ∧ l.length = r.length + t.length ∧ SB ((i * t.length + j) * (b1 * b2)) l ∧ ∀ k, g l k = S i (fun a => if a ≤ k then g r a * g t (k - a) else 0) + (if i ≤ k ∧ k - i < j then g r i * g t (k - i) else 0)) ?_ ?_ ?_
    · exact ⟨x4, l, rfl, s2, e2, ll, bl, fun k => by rw [cl k, if_neg (by omega), Int.add_zero]⟩
    · rintro j σ H3 hj ⟨x4, l, rfl, s3, e3, ll, bl, cl⟩
      walk_at "rd"
      rw [Int.zero_add, Int.zero_add]
      have hij : i + j < l.length := by omega
      have ci := sb_get br i
      have cj := sb_get bt j
      have gl : (l.map V.int)[i + j]? = some (.int (l.getD (i + j) 0)) := by rw [List.getElem?_map, List.getD_eq_getElem?_getD, List.getElem?_eq_getElem hij]; rfl
      have gr : (r.map V.int)[i]? = some (.int (r.getD i 0)) := by rw [List.getElem?_map, List.getD_eq_getElem?_getD, List.getElem?_eq_getElem hi]; rfl
      have gt : (t.map V.int)[j]? = some (.int (t.getD j 0)) := by rw [List.getElem?_map, List.getD_eq_getElem?_getD, List.getElem?_eq_getElem hj]; rfl
      have ij : (i : Int) + (j : Int) = ((i + j : Nat) : Int) := by omega
      refine ⟨.ref L, rfl, .int i, rfl, .int j, rfl, i, j, rfl, rfl, ?_⟩
      walk_at "rd"
      rw [ij]
      refine ⟨L, _, _, _, rfl, rfl, SqL.of e3, atI_nat gl, .ref pu, rfl, .int i, rfl, pu, _, _, _, rfl, rfl, SqT.of (s3 _ _ eu), atI_nat gr, .ref pw, rfl, .int j, rfl, pw, _, _, _, rfl, rfl, SqT.of (s3 _ _ ev), atI_nat gt, _, _, rfl, rfl, .inr ⟨by omega, by omega⟩, _, _, rfl, rfl, .ref L, rfl, .int i, rfl, .int j, rfl, i, j, rfl, rfl, ?_⟩
      walk_at "rd"
      rw [ij]
      refine ⟨L, _, _, i + j, rfl, rfl, e3, Evl.ixN_nat (by rw [List.length_map]; exact hij), some (.int j), l.set (i + j) (l.getD (i + j) 0 + r.getD i 0 * t.getD j 0), rfl, same_upd s3 nL', ?_, by rw [List.length_set]; exact ll, ?_, fun k => ?_⟩
      · rw [upd_same, map_set']
      · refine sb_set bl ?_ ?_
        · refine Nat.le_trans (Int.natAbs_add_le _ _) ?_
          rw [Int.natAbs_mul, ← Nat.add_assoc, Nat.add_mul (i * t.length + j), Nat.one_mul]
          exact Nat.add_le_add (sb_get bl _) (Nat.mul_le_mul ci cj)
        · exact Nat.mul_le_mul_right _ (by omega)
      · rw [g_set hij, cl k]
        by_cases c : k = i + j
        · subst c
          rw [if_pos rfl, show l.getD (i + j) 0 = g l (i + j) from rfl, cl (i + j), if_neg (by omega), if_pos (by omega), Int.add_zero, show i + j - i = j from by omega]
        · rw [if_neg c]
          congr 1
          by_cases c2 : i ≤ k ∧ k - i < j
          · rw [if_pos c2, if_pos (by omega)]
          · rw [if_neg c2, if_neg (by omega)]
    · rintro σ H3 ⟨x4, l, rfl, s3, e3, ll, bl, cl⟩
      refine ⟨_, x4, l, rfl, s3, e3, ll, by rw [Nat.add_mul i 1, Nat.one_mul]; exact bl, fun k => ?_⟩
      rw [cl k, S]
      congr 1
      by_cases c : i ≤ k
      · rw [if_pos c]
        by_cases c2 : k - i < t.length
        · rw [if_pos ⟨c, c2⟩]
        · rw [if_neg (by omega), g_none (show t.length ≤ k - i by omega), Int.mul_zero]
      · rw [if_neg c, if_neg (by omega)]
  · rintro σ H2 ⟨x3, x4, l, rfl, s2, e2, ll, bl, cl⟩
    refine ⟨.ref L, rfl, L, l, rfl, e2, fun z H3 s3 r3 => q z _ H3 (s2.trans s3) r3 (okR_trim _) ?_ (sb_trim bl) fun k => by rw [g_trim, cl k, cv_loop (fun i hi => g_none hi)]⟩
    have : (trimI l).length ≤ l.length := trimBy_len _ l
    omega
end
end K22

set_option Elab.async false
set_option linter.all false
set_option maxRecDepth 100000
set_option maxHeartbeats 4000000
local macro_rules | `(tactic| walk_at "rd") => `(tactic| dsimp only [Evl.tCut, L2.tSeq, L2.tNext, L2.tRet, L2.tRetN, L2.tAsg, L2.gName, L2.tIfS, L2.tDrop, L2.tCons, L2.tNil, L2.tC, L2.tVar, L2.tCB, L2.tAndV, L2.tOrV, L2.tNotV, L2.tB, L2.tTest, L2.tOp, L2.tUn, L2.tNot, L2.tAnd, L2.tOr, L2.tIf, L2.tCall, L2.tTup, L2.tLst, L2.tNotT, L2.tYes, L2.gTup, L2.gCons, L2.gNil, L2.gSub, L2.tBM0, L2.tBM, L2.tWhile, L2.tFor, L2.iRng1, L2.tPar, L2.tPar3, L2.tSl, L2.tNoPart, L2.tPart, Tw.tRevT])
namespace K22
open PySem PySem.Spec PyProof.Rows L2 Tw
def cv2 (p q : List (List Int)) (i j : Nat) : Int := S (i + 1) fun a => cv (co p a) (co q (i - a)) j
theorem cv2_loop {p q : List (List Int)} (i j : Nat) : S p.length (fun a => if a ≤ i then cv (co p a) (co q (i - a)) j else 0) = cv2 p q i j := by
  have e1 : S (max p.length (i + 1)) (fun a => if a ≤ i then cv (co p a) (co q (i - a)) j else 0) = S p.length (fun a => if a ≤ i then cv (co p a) (co q (i - a)) j else 0) := S_more (by omega) fun a ha => by
    rw [cv_zero (fun k => by unfold co; rw [rw_none ha]; rfl)]
    split <;> rfl
  have e2 : S (max p.length (i + 1)) (fun a => if a ≤ i then cv (co p a) (co q (i - a)) j else 0) = S (i + 1) (fun a => if a ≤ i then cv (co p a) (co q (i - a)) j else 0) := S_more (by omega) fun a ha => by
    rw [if_neg (by omega)]
  rw [← e1, e2]
  exact S_ext _ fun a ha => by rw [if_pos (by omega)]
def spPTimes : Sp := fun vs H Q _ => ∃ u v p q b1 b2, vs = [u, v] ∧ Po H u p ∧ Po H v q ∧ (∃ a, We a H) ∧ Bd 4 b1 p ∧ Bd 4 b2 q ∧ b2 < 2 ^ 64 ∧ ∀ z t H', Same H H' → Po H' z t → okP t → Bd 8 (16 * (16 * (b1 * b2))) t → (∀ i j, co t i j = cv2 p q i j) → Q z H'
section
variable {P : Program} {w : World} {K : PySem.W.Frag} {mg : Str → Option Value} {base : Heap}
theorem scPTimes : FnScope ["_law_one", "_law_two", "_law_made", "_law_k", "_law_n"] ["_law_one", "_law_two"] (defScope sPTimes) := ⟨rfl, rfl, rfl, by decide +kernel, rfl, by decide +kernel, by decide +kernel⟩
theorem ok_ptimes (D : Def K mg "_law_poly_times" sPTimes ["_law_one", "_law_two"]) (nb : Nb mg) (c1 : Cal P w K mg base "_law_trim" 1 ["_law_some"] spTrim) (c3 : Cal P w K mg base "_law_row_sum" 2 ["_law_one", "_law_two"] spRSum) (c4 : Cal P w K mg base "_law_row_times" 2 ["_law_one", "_law_two"] spRTimes) :
    Cal P w K mg base "_law_poly_times" 3 ["_law_one", "_law_two"] spPTimes := by
  have c2 := c1.imp trim_rows
  refine D.ok scPTimes (fun vs H Q E h => ?_) (fun f cdv A out s H vs Q E hr h => ?_)
  · obtain ⟨u, v, r, s, b1, b2, rfl, _⟩ := h; rfl
  obtain ⟨u, v, p, q, b1, b2, rfl, hu, hv, ⟨wa, hw⟩, bp, bq, b64, hQ⟩ := h
  have lq := bq.1
  refine ⟨_, pss_cons (ps_set (i := 2) scPTimes.nd rfl (Or.inl rfl) (pe_op op_rep (pe_lst (pa_cons (pe_tup pa_nil) pa_nil)) (pe_op op_add (pe_callB (id := "len") (r := rLn K) call_len_seq (by rfl) nb.len PySem.boot_len (pa_cons (pv 0) pa_nil)) (pe_callB (id := "len") (r := rLn K) call_len_seq (by rfl) nb.len PySem.boot_len (pa_cons (pv 1) pa_nil)))))
    (pss_cons (ps_for PassesOwn.never rfl (pi_range1 (by rfl) nb.rng (pa_cons (pe_callB (id := "len") (r := rLn K) call_len_seq (by rfl) nb.len PySem.boot_len (pa_cons (pv 0) pa_nil)) pa_nil)) (pg_name (i := 3) scPTimes.nd rfl (Or.inl rfl))
      (pss_one (ps_for PassesOwn.never rfl (pi_range1 (by rfl) nb.rng (pa_cons (pe_callB (id := "len") (r := rLn K) call_len_seq (by rfl) nb.len PySem.boot_len (pa_cons (pv 1) pa_nil)) pa_nil)) (pg_name (i := 4) scPTimes.nd rfl (Or.inl rfl))
        (pss_one (ps_asg (pe_cal c3 hr (by decide) (by rfl) (pa_cons (pe_ix ix_list (pv 2) (pe_op op_add (pv 3) (pv 4)) (fun _ _ => rfl)) (pa_cons (pe_cal c4 hr (by decide) (by rfl) (pa_cons (pe_ix ix_tup (pv 0) (pv 3) (fun _ _ => rfl)) (pa_cons (pe_ix ix_tup (pv 1) (pv 4) (fun _ _ => rfl)) pa_nil))) pa_nil)))
          (pg_sub (pv 2) (pe_op op_add (pv 3) (pv 4)) set_list))))))
    (pss_one (ps_ret (pe_cal c2 hr (by decide) (by rfl) (pa_cons (pv 2) pa_nil))))), ?_⟩
  walk_at "rd"
  obtain ⟨pu, xs, rfl, eu, hx⟩ := hu
  obtain ⟨pw, ws, rfl, ev, hy⟩ := hv
  have lp := bp.1
  have lx := hx.1
  have ly := hy.1
  refine ⟨sz (by simp), fun e0 ne0 => ?_⟩
  have s00 := same_new (o := .tup []) ne0
  have re0 : Ro (upd H e0 (.tup [])) (.ref e0) [] := ⟨e0, rfl, upd_same⟩
  generalize upd H e0 (.tup []) = H0 at s00 re0 ⊢
  refine ⟨sz (by simp), fun L0 nL0 => ?_⟩
  have s0 := s00.trans (same_new (o := .lst [.ref e0]) nL0)
  refine ⟨.ref pu, rfl, pu, _, rfl, .inr (SqT.of (s0 _ _ eu)), .ref pw, rfl, pw, _, rfl, .inr (SqT.of (s0 _ _ ev)), _, _, rfl, rfl, L0, _, _, rfl, rfl, upd_same, by omega, by omega, ?_, fun L nL => ?_⟩
  · have := sz (n := (xs.length + ws.length)) (by omega)
    show 1 * _ ≤ _
    rw [Nat.one_mul]
    omega
  have s1 := s0.trans (same_new (o := .lst (List.replicate (((xs.length : Nat) : Int) + ((ws.length : Nat) : Int)).toNat [V.ref e0]).flatten) nL)
  have nL' : H L = none := s0.free nL
  have eL : upd (upd H0 L0 (.lst [.ref e0])) L (.lst (List.replicate (((xs.length : Nat) : Int) + ((ws.length : Nat) : Int)).toNat [V.ref e0]).flatten) L = some (.lst (List.replicate (p.length + q.length) (V.ref e0))) := by
    rw [upd_same, flat_one, lx, ly]
    congr 3
  have rL : RoA (upd (upd H0 L0 (.lst [.ref e0])) L (.lst (List.replicate (((xs.length : Nat) : Int) + ((ws.length : Nat) : Int)).toNat [V.ref e0]).flatten)) (List.replicate (p.length + q.length) (V.ref e0)) (List.replicate (p.length + q.length) []) := by
    refine ⟨by simp, fun i v e => ?_⟩
    rw [List.getElem?_replicate] at e
    split at e
    · cases e
      refine ⟨[], by rw [List.getElem?_replicate, if_pos ‹_›], ?_⟩
      exact re0.kt ((Kt.of (same_new nL0)).trans (Kt.of (same_new nL)))
    · cases e
  generalize upd (upd H0 L0 (.lst [.ref e0])) L _ = H1 at s1 eL rL ⊢
  refine ⟨.ref pu, rfl, pu, _, rfl, .inr (SqT.of (s1 _ _ eu)), (xs.length : Int), rfl, by omega, by omega, ?_⟩
  rw [show ((xs.length : Nat) : Int).toNat = p.length from by omega]
  refine for_rng (lo := 0) (n := p.length) (fun i σ H' => ∃ (x3 x4 : Option V) (ys : List V) (rs : List (List Int)), σ = [some (.ref pu), some (.ref pw), some (.ref L), x3, x4] ∧ Same H H' ∧ H' L = some (.lst ys) ∧ RoA H' ys rs ∧ rs.length = p.length + q.length ∧ (∀ r ∈ rs, okR r ∧ r.length ≤ 8 ∧ SB (i * q.length * (16 * (b1 * b2))) r) ∧ ∀ i' j', co rs i' j' = S i (fun a => if a ≤ i' then cv (co p a) (co q (i' - a)) j' else 0)) ?_ ?_ ?_
  · refine ⟨none, none, _, _, rfl, s1, eL, rL, by simp, fun r hr => ?_, fun i' j' => ?_⟩
    · rw [(List.mem_replicate.mp hr).2]
      exact ⟨fun c hc => by simp at hc, by simp, fun c hc => by simp at hc⟩
    · unfold co rw'
      rw [List.getD_eq_getElem?_getD, List.getElem?_replicate]
      split <;> rfl
  · rintro i σ H2 hi ⟨x3, x4, ys, rs, rfl, s2, e2, r2, ll, bl, cl⟩
    walk_at "rd"
    refine ⟨.ref pw, rfl, pw, _, rfl, .inr (SqT.of (s2 _ _ ev)), (ws.length : Int), rfl, by omega, by omega, ?_⟩
    rw [show ((ws.length : Nat) : Int).toNat = q.length from by omega]
    refine for_rng (lo := 0) (n := q.length) (fun j σ H' => ∃ (x4 : Option V) (ys : List V) (rs : List (List Int)), σ = [some (.ref pu), some (.ref pw), some (.ref L), some (.int (0 + (i : Int))), x4] ∧ Same H H' ∧ H' L = some (.lst ys) ∧ RoA H' ys rs ∧ rs.length = p.length + q.length ∧ (∀ r ∈ rs, okR r ∧ r.length ≤ 8 ∧ SB ((i * q.length + j) * (16 * (b1 * b2))) r) ∧ ∀ i' j', co rs i' j' = S i (fun a => if a ≤ i' then cv (co p a) (co q (i' - a)) j' else 0) + (if i ≤ i' ∧ i' - i < j then cv (co p i) (co q (i' - i)) j' else 0)) ?_ ?_ ?_
    · exact ⟨x4, ys, rs, rfl, s2, e2, r2, ll, bl, fun i' j' => by rw [cl i' j', if_neg (by omega), Int.add_zero]⟩
    · rintro j σ H3 hj ⟨x4, ys, rs, rfl, s3, e3, r3, ll, bl, cl⟩
      walk_at "rd"
      rw [Int.zero_add, Int.zero_add]
      have hij : i + j < rs.length := by omega
      have ij : (i : Int) + (j : Int) = ((i + j : Nat) : Int) := by omega
      obtain ⟨y, gy, ry⟩ := r3.get hij
      obtain ⟨a, ga, ra⟩ := (hx.kt (Kt.of s3)).get hi
      obtain ⟨b, gb, rb⟩ := (hy.kt (Kt.of s3)).get hj
      have my := bl rs[i + j] (List.getElem_mem _)
      have ma := bp.2 p[i] (List.getElem_mem _)
      have mb := bq.2 q[j] (List.getElem_mem _)
      refine ⟨.ref L, rfl, .int i, rfl, .int j, rfl, i, j, rfl, rfl, ?_⟩
      walk_at "rd"
      rw [ij]
      refine ⟨L, _, _, y, rfl, rfl, SqL.of e3, atI_nat gy, .ref pu, rfl, .int i, rfl, pu, _, _, a, rfl, rfl, SqT.of (s3 _ _ eu), atI_nat ga, .ref pw, rfl, .int j, rfl, pw, _, _, b, rfl, rfl, SqT.of (s3 _ _ ev), atI_nat gb, ?_⟩
      refine ⟨a, b, p[i], q[j], b1, b2, rfl, ra, rb, by omega, by omega, ma.2, mb.2, b64, fun z t H4 s4 rz okz lz bz cz => ?_⟩
      have bz2 : SB (16 * (b1 * b2)) t := bz.up (Nat.mul_le_mul_right _ (show p[i].length * q[j].length ≤ 16 from Nat.mul_le_mul ma.1 mb.1))
      refine ⟨y, z, rs[i + j], t, _, _, rfl, ry.kt (Kt.of s4), rz, by omega, by omega, my.2.2, bz2, fun z2 t2 H5 s5 rz2 okz2 lz2 bz2 cz2 => ?_⟩
      refine ⟨.ref L, rfl, .int i, rfl, .int j, rfl, i, j, rfl, rfl, ?_⟩
      walk_at "rd"
      rw [ij]
      have e5 := (s4.trans s5) _ _ e3
      refine ⟨L, _, _, i + j, rfl, rfl, e5, Evl.ixN_nat (by rw [r3.1]; exact hij), some (.int j), ys.set (i + j) z2, rs.set (i + j) t2, rfl, same_upd (s3.trans (s4.trans s5)) nL', upd_same, ?_, by rw [List.length_set]; exact ll, fun r hr => ?_, fun i' j' => ?_⟩
      · exact ((r3.kt (Kt.of (s4.trans s5))).set (i + j) rz2).kt (kt_upd e5)
      · have eb : (i * q.length + j) * (16 * (b1 * b2)) + 16 * (b1 * b2) = (i * q.length + (j + 1)) * (16 * (b1 * b2)) := by
          rw [← Nat.add_assoc, Nat.add_mul (i * q.length + j), Nat.one_mul]
        rcases List.mem_or_eq_of_mem_set hr with hr | hr
        · have m := bl r hr
          exact ⟨m.1, m.2.1, m.2.2.up (by omega)⟩
        · rw [hr]
          exact ⟨okz2, by omega, by rw [← eb]; exact bz2⟩
      · unfold co
        rw [rw_set hij]
        have ci := cl i' j'
        unfold co at ci
        by_cases c : i' = i + j
        · subst c
          rw [if_pos rfl, cz2 j', cz j', ← rw_some hij, ci, if_neg (by omega), if_pos (by omega), Int.add_zero, show i + j - i = j from by omega, rw_some hi, rw_some hj]
        · rw [if_neg c, ci]
          congr 1
          by_cases c2 : i ≤ i' ∧ i' - i < j
          · rw [if_pos c2, if_pos (by omega)]
          · rw [if_neg c2, if_neg (by omega)]
    · rintro σ H3 ⟨x4, ys, rs, rfl, s3, e3, r3, ll, bl, cl⟩
      refine ⟨_, x4, ys, rs, rfl, s3, e3, r3, ll, by rw [Nat.add_mul i 1, Nat.one_mul]; exact bl, fun i' j' => ?_⟩
      rw [cl i' j', S]
      congr 1
      by_cases c : i ≤ i'
      · rw [if_pos c]
        by_cases c2 : i' - i < q.length
        · rw [if_pos ⟨c, c2⟩]
        · rw [if_neg (by omega), cv_comm, cv_zero (fun k => by unfold co; rw [rw_none (show q.length ≤ i' - i by omega)]; rfl)]
      · rw [if_neg c, if_neg (by omega)]
  · rintro σ H2 ⟨x3, x4, ys, rs, rfl, s2, e2, r2, ll, bl, cl⟩
    refine ⟨.ref L, rfl, L, ys, rs, rfl, e2, r2, ⟨wa, hw.to s2⟩, fun z H3 s3 r3 => hQ z _ H3 (s2.trans s3) r3 (okP_trim fun r hr => (bl r hr).1) ⟨?_, fun r hr => ?_⟩ fun i' j' => by unfold co; rw [rw_trim]; exact (cl i' j').trans (cv2_loop i' j')⟩
    · have : (trimP rs).length ≤ rs.length := trimBy_len _ rs
      omega
    · have m := bl r (trimBy_mem _ _ hr)
      refine ⟨by omega, m.2.2.up ?_⟩
      refine Nat.mul_le_mul_right _ ?_
      have := Nat.mul_le_mul lp lq
      omega
end
end K22

set_option Elab.async false
set_option linter.all false
set_option maxRecDepth 100000
set_option maxHeartbeats 4000000
local macro_rules | `(tactic| walk_at "rd") => `(tactic| dsimp only [Evl.tCut, L2.tSeq, L2.tNext, L2.tRet, L2.tRetN, L2.tAsg, L2.gName, L2.tIfS, L2.tDrop, L2.tCons, L2.tNil, L2.tC, L2.tVar, L2.tCB, L2.tAndV, L2.tOrV, L2.tNotV, L2.tB, L2.tTest, L2.tOp, L2.tUn, L2.tNot, L2.tAnd, L2.tOr, L2.tIf, L2.tCall, L2.tTup, L2.tLst, L2.tNotT, L2.tYes, L2.gTup, L2.gCons, L2.gNil, L2.gSub, L2.tBM0, L2.tBM, L2.tWhile, L2.tFor, L2.iRng1, L2.tAug, L2.ipI, RT.iRevA, L2.tPar, L2.tPar3, L2.tSl, L2.tNoPart, L2.tPart, Tw.tRevT])
namespace K22
open PySem PySem.Spec PyProof.Rows L2 Tw
def spFrac : Sp := fun vs H Q _ => ∃ v n m, vs = [v] ∧ Pr H v n m ∧ 0 < m ∧ Nat.gcd n.natAbs m.natAbs = 1 ∧ ∀ H', Same H H' → Q (.bl true) H'
def spPower : Sp := fun vs H Q _ => ∃ (m : Int) (k : Nat), vs = [.int m, .int (k : Int)] ∧ 0 < m ∧ m ≤ 7 ∧ k ≤ 8 ∧ ∀ H', Same H H' → Q (.int (m ^ k)) H'
def spShared : Sp := fun vs H Q _ => ∃ p l, vs = [.ref p] ∧ H p = some (.lst (l.map V.int)) ∧ ∀ H', Same H H' → Q (.int (G 0 l : Nat)) H'
def spScaled : Sp := fun vs H Q _ => ∃ u r n m, vs = [u, .int n, .int m] ∧ Ro H u r ∧ n.natAbs ≤ 12 ∧ 0 < m ∧ m ≤ 7 ∧ r.length ≤ 8 ∧ ∀ H', Same H H' → Q (.int (T n m r)) H'
/-- a loop over a tuple turned round, its body already read -/
theorem for_rev {K : PySem.W.Frag} {a : Addr} {xs : List V} {B : (L2.St → Hp → Prop) → V → L2.St → Hp → Prop} {nx : L2.St → Hp → Prop} {σ : L2.St} {H : Hp} (Pv : Nat → L2.St → Hp → Prop) (h0 : Pv 0 σ H)
    (hl : ∀ i σ' H', i ≤ xs.length → Pv i σ' H' → SqT K H' a xs)
    (hs : ∀ (i : Nat) x σ' H', i < xs.length → xs[xs.length - 1 - i]? = some x → Pv i σ' H' → B (Pv (i + 1)) x σ' H') (hd : ∀ σ' H', Pv xs.length σ' H' → nx σ' H') :
    ∃ W : Nat → Nat → L2.St → Hp → Prop, (∃ m, W 0 m σ H) ∧ ∀ i m σ H, W i m σ H →
      ((RT.ItvT K a xs.length).stop i H ∧ nx σ H) ∨ ((RT.ItvT K a xs.length).go i H ∧ ∃ N : L2.St → Hp → Prop, (∀ σ' H', N σ' H' → ∃ m', m' < m ∧ W (i + 1) m' σ' H') ∧ ∀ x H', (RT.ItvT K a xs.length).yld i H x H' → B N x σ H') := by
  refine ⟨fun i m σ H => m = xs.length - i ∧ i ≤ xs.length ∧ Pv i σ H, ⟨xs.length, by simp, Nat.zero_le _, h0⟩, ?_⟩
  rintro i m σ' H' ⟨rfl, hi, p⟩
  have ql := hl i σ' H' hi p
  by_cases c : i < xs.length
  · have hx : xs.length - 1 - i < xs.length := by omega
    refine Or.inr ⟨⟨c, xs, xs[xs.length - 1 - i], ql, List.getElem?_eq_getElem hx⟩, Pv (i + 1), fun σ2 H2 p2 => ⟨xs.length - (i + 1), by omega, rfl, c, p2⟩, fun x H2 y => ?_⟩
    obtain ⟨e1, e2⟩ := y
    subst e1
    exact hs i x σ' _ c (e2 xs ql) p
  · have e : i = xs.length := by omega
    subst e
    exact Or.inl ⟨Nat.le_refl _, hd σ' H' p⟩
section
variable {P : Program} {w : World} {K : PySem.W.Frag} {mg : Str → Option Value} {base : Heap}
theorem scIsFr : FnScope ["value", "n", "m"] ["value"] (defScope sIsFr) := ⟨rfl, rfl, rfl, by decide +kernel, rfl, by decide +kernel, by decide +kernel⟩
theorem ok_isfr (D : Def K mg "is_fraction" sIsFr ["value"]) (nb : Nb mg) (c1 : Cal P w K mg base "is_whole" 1 ["value"] (spB wholeB)) : Cal P w K mg base "is_fraction" 2 ["value"] spFrac := by
  refine D.ok scIsFr (fun vs H Q E h => ?_) (fun f cdv A out s H vs Q E hr h => ?_)
  · obtain ⟨v, n, m, rfl, _⟩ := h; rfl
  obtain ⟨v, n, m, rfl, hv, m0, co, q⟩ := h
  refine ⟨_, pss_cons (ps_if (PW.pt (pw_or (pt_not (pt_val (pe_callB (id := "isinstance") (r := rIsi K) call_isi (by rfl) nb.isi (by decide +kernel) (pa_cons (pv 0) (pa_cons (pe_bltn (v := .ty "tuple") (by rfl) nb.tup (by decide +kernel) rfl) pa_nil)))))
      (pw_or1 (pt_cmpR op_ne (pe_callB (id := "len") (r := rLn K) call_len_seq (by rfl) nb.len PySem.boot_len (pa_cons (pv 0) pa_nil)) pe_int (nomark _))))) pss_dead pss_nil)
    (pss_cons (ps_asg (pv 0) (pg_tup rfl (pgs_cons (pg_name (i := 1) scIsFr.nd rfl (Or.inl rfl)) (pgs_cons (pg_name (i := 2) scIsFr.nd rfl (Or.inl rfl)) pgs_nil))))
    (pss_one (ps_ret (pe_and (pe_cal c1 hr (by decide) (by rfl) (pa_cons (pv 1) pa_nil)) (pe_and (pe_cal c1 hr (by decide) (by rfl) (pa_cons (pv 2) pa_nil)) (pe_and (pe_cmpR op_gt (pv 2) pe_int (nomark _))
      (pe_one (pe_cmpR op_eq (pe_callBfun cr_gcd (by rfl) nb.gc (pa_cons (pv 1) (pa_cons (pv 2) pa_nil))) pe_int (nomark _))))))))), ?_⟩
  walk_at "rd"
  obtain ⟨p, rfl, e⟩ := hv
  have dv : Da (p + 1) H (.ref p) (.tuple [.int n, .int m]) := .tup (Nat.ne_of_lt (Nat.lt_succ_self p)) e (.cons (.int n) (.cons (.int m) .nil))
  refine ⟨.ref p, rfl, isi dv (isi_tup _) ⟨true, rfl, iteF ⟨.ref p, rfl, p, _, rfl, .inr (SqT.of e), rfl, _, rfl, iteF ⟨_, rfl, p, _, rfl, SqT.of e, rfl, _, _, rfl, _, _, rfl, rfl, ?_⟩⟩⟩⟩
  refine ⟨.int n, rfl, 0, .int n, .int n, 0, rfl, .int n, sm_int _ _ _, fun H1 s1 => ⟨true, rfl, iteT ⟨.int m, rfl, 0, .int m, .int m, 0, rfl, .int m, sm_int _ _ _, fun H2 s2 => ⟨true, rfl, iteT ?_⟩⟩⟩⟩
  refine ⟨.int m, rfl, _, _, rfl, rfl, _, rfl, ite2 (fun c => ?_) (fun c => absurd (decide_eq_true m0) c)⟩
  refine ⟨.int n, rfl, .int m, rfl, n, m, rfl, rfl, ?_⟩
  rw [co]
  exact q H2 (s1.trans s2)
theorem scPower : FnScope ["base", "many", "found"] ["base", "many"] (defScope sPower) := ⟨rfl, rfl, rfl, by decide +kernel, rfl, by decide +kernel, by decide +kernel⟩
theorem pow_turn {b f : Int} {k : Nat} : (if k % 2 = 1 then f * b else f) * (b * b) ^ (k / 2) = f * b ^ k := by
  have e : b ^ k = (b * b) ^ (k / 2) * b ^ (k % 2) := by
    conv => lhs; rw [← Nat.div_add_mod k 2]
    rw [Int.pow_add, Int.pow_mul]
    congr 2
    rw [Int.pow_succ, Int.pow_succ, Int.pow_zero, Int.one_mul]
  rcases Nat.mod_two_eq_zero_or_one k with z | z
  · rw [if_neg (by omega), e, z, Int.pow_zero, Int.mul_one]
  · rw [if_pos z, e, z]
    rw [show b ^ 1 = b from by rw [Int.pow_succ, Int.pow_zero, Int.one_mul]]
    grind
theorem ok_power (D : Def K mg "power" sPower ["base", "many"]) : Cal P w K mg base "power" 1 ["base", "many"] spPower := by
  refine D.ok scPower (fun vs H Q E h => ?_) (fun f cdv A out s H vs Q E hr h => ?_)
  · obtain ⟨m, k, rfl, _⟩ := h; rfl
  obtain ⟨m, k, rfl, m0, m1, k1, q⟩ := h
  refine ⟨_, pss_cons (ps_set (i := 2) scPower.nd rfl (Or.inl rfl) pe_int)
    (pss_cons (ps_while PassesOwn.never (pt_truth (pv 1) (fun _ => rfl))
      (Evl.pss_cut (ps_if (pt_truth (pe_op op_odd (pv 1) pe_int) (fun _ => rfl)) (pss_one (ps_aug (i := 2) scPower.nd rfl (Or.inl rfl) (pv 0) ip_mul)) pss_nil)
      (pss_cons (ps_aug (i := 1) scPower.nd rfl (Or.inl rfl) pe_int ip_half)
      (pss_one (ps_if (pt_truth (pv 1) (fun _ => rfl)) (pss_one (ps_aug (i := 0) scPower.nd rfl (Or.inl rfl) (pv 0) ip_mul)) pss_nil)))))
    (pss_one (ps_ret (pv 2)))), ?_⟩
  walk_at "rd"
  have mk : m ^ k ≤ 7 ^ 8 := Int.le_trans (pow_le7 m0 m1 k) (pow_mono7 k1)
  refine ⟨fun j σ H' => ∃ b f : Int, σ = [some (.int b), some (.int (j : Int)), some (.int f)] ∧ 0 < b ∧ 0 < f ∧ f * b ^ j = m ^ k ∧ H' = H, ⟨k, m, 1, rfl, m0, by decide, by rw [Int.one_mul], rfl⟩, ?_⟩
  rintro j σ H1 ⟨b, f, rfl, b0, f0, e, rfl⟩
  refine ⟨.int j, rfl, _, rfl, ?_⟩
  have fle : f ≤ m ^ k := by
    have := pow_pos' b0 j
    have := Int.mul_le_mul_of_nonneg_left (show (1 : Int) ≤ b ^ j by omega) (show 0 ≤ f by omega)
    rw [Int.mul_one] at this
    omega
  by_cases c : j = 0
  · subst c
    refine iteF ⟨_, rfl, ?_⟩
    have : f = m ^ k := by simpa using e
    rw [this]
    exact q _ (Same.refl _)
  rw [show ((j : Int) != 0) = true from bne_iff_ne.mpr (by omega)]
  have ble : b ≤ m ^ k := by
    obtain ⟨i, rfl⟩ : ∃ i, j = i + 1 := ⟨j - 1, by omega⟩
    have p0 := pow_pos' b0 i
    have h1 : b ^ (i + 1) = b ^ i * b := Int.pow_succ _ _
    have h2 := Int.mul_le_mul_of_nonneg_right (show (1 : Int) ≤ f * b ^ i by have := Int.mul_pos f0 p0; omega) (show 0 ≤ b by omega)
    rw [Int.one_mul] at h2
    have h3 : f * b ^ i * b = m ^ k := by rw [Int.mul_assoc, ← h1, e]
    omega
  refine iteT ⟨fun σ' H' => ∃ (j' : Nat) (b f : Int), j' < j ∧ σ' = [some (.int b), some (.int (j' : Int)), some (.int f)] ∧ 0 < b ∧ 0 < f ∧ f * b ^ j' = m ^ k ∧ H' = H1, fun σ' H' ⟨j', b', f', a1, a2, a3, a4, a5, a6⟩ => ⟨j', a1, b', f', a2, a3, a4, a5, a6⟩, ?_⟩
  refine ⟨fun σ' H' => σ' = [some (.int b), some (.int (j : Int)), some (.int (if j % 2 = 1 then f * b else f))] ∧ H' = H1, ?_, ?_⟩
  · refine ⟨.int j, rfl, j, rfl, rfl, _, rfl, ?_⟩
    rcases Nat.mod_two_eq_zero_or_one j with z | z
    · rw [z]
      refine iteF ⟨?_, rfl⟩
      rw [if_neg (by omega)]
    · rw [z]
      refine iteT ⟨.int f, rfl, .int b, rfl, f, b, rfl, rfl, .inr ⟨by omega, by omega⟩, ?_, rfl⟩
      rw [if_pos rfl]
      rfl
  · rintro σ2 H2 ⟨rfl, rfl⟩
    refine ⟨.int j, rfl, j, rfl, rfl, .int ((j / 2 : Nat) : Int), rfl, _, rfl, ?_⟩
    have tn := pow_turn (b := b) (f := f) (k := j)
    have f2 : 0 < (if j % 2 = 1 then f * b else f) := by
      split
      · exact Int.mul_pos f0 b0
      · exact f0
    generalize (if j % 2 = 1 then f * b else f) = f' at tn f2 ⊢
    have jl : j / 2 < j := Nat.div_lt_self (by omega) (by decide)
    by_cases z : j / 2 = 0
    · rw [z] at tn ⊢
      refine iteF ⟨0, b, f', by omega, rfl, b0, f2, ?_, rfl⟩
      rw [← e, ← tn]
      simp
    · rw [show (((j / 2 : Nat) : Int) != 0) = true from bne_iff_ne.mpr (by omega)]
      refine iteT ⟨.int b, rfl, .int b, rfl, b, b, rfl, rfl, .inr ⟨by omega, by omega⟩, ?_⟩
      exact ⟨j / 2, b * b, f', jl, rfl, Int.mul_pos b0 b0, f2, by rw [tn, e], rfl⟩
end
end K22

set_option Elab.async false
set_option linter.all false
set_option maxRecDepth 100000
set_option maxHeartbeats 4000000
local macro_rules | `(tactic| walk_at "rd") => `(tactic| dsimp only [Evl.tCut, L2.tSeq, L2.tNext, L2.tRet, L2.tRetN, L2.tAsg, L2.gName, L2.tIfS, L2.tDrop, L2.tCons, L2.tNil, L2.tC, L2.tVar, L2.tCB, L2.tAndV, L2.tOrV, L2.tNotV, L2.tB, L2.tTest, L2.tOp, L2.tUn, L2.tNot, L2.tAnd, L2.tOr, L2.tIf, L2.tCall, L2.tTup, L2.tLst, L2.tNotT, L2.tYes, L2.gTup, L2.gCons, L2.gNil, L2.gSub, L2.tBM0, L2.tBM, L2.tWhile, L2.tFor, L2.iRng1, L2.tAug, L2.ipI, RT.iRevA, L2.tPar, L2.tPar3, L2.tSl, L2.tNoPart, L2.tPart, Tw.tRevT])
namespace K22
open PySem PySem.Spec PyProof.Rows L2 Tw
section
variable {P : Program} {w : World} {K : PySem.W.Frag} {mg : Str → Option Value} {base : Heap}
theorem scTrimmed : FnScope ["numbers", "last"] ["numbers"] (defScope sTrimmed) := ⟨rfl, rfl, rfl, by decide +kernel, rfl, by decide +kernel, by decide +kernel⟩
theorem cut_to {α : Type} (xs : List V) {m : Nat} (h : m ≤ xs.length) : L2.cutV xs none (some (m : Int)) = xs.take m := by
  unfold L2.cutV
  rw [HT.sIx_nat, HT.sIx_none, List.drop_zero, Nat.sub_zero, Nat.min_eq_left h]
theorem ok_trimmed (D : Def K mg "trimmed" sTrimmed ["numbers"]) (nb : Nb mg) : Cal P w K mg base "trimmed" 1 ["numbers"] spTrimI := by
  refine D.ok scTrimmed (fun vs H Q E h => ?_) (fun f cdv A out s H vs Q E hr h => ?_)
  · obtain ⟨p, l, rfl, _⟩ := h; rfl
  obtain ⟨p, l, rfl, e, q⟩ := h
  refine ⟨_, pss_cons (ps_set (i := 1) scTrimmed.nd rfl (Or.inl rfl) (pe_callB (id := "len") (r := rLn K) call_len_seq (by rfl) nb.len PySem.boot_len (pa_cons (pv 0) pa_nil)))
    (pss_cons (ps_while PassesOwn.never (PW.pt (pw_and (pt_truth (pv 1) (fun _ => rfl)) (pw_and1 (pt_cmpR op_eq (pe_ix ix_list (pv 0) (pe_op op_sub (pv 1) pe_int) (fun _ _ => rfl)) pe_int (nomark _)))))
      (pss_one (ps_aug (i := 1) scTrimmed.nd rfl (Or.inl rfl) pe_int ip_sub)))
    (pss_one (ps_ret (pe_callTy (T := "tuple") call_tuple_of (by rfl) nb.tup (by decide +kernel) (pa_cons (pe_slice sl_list (pv 0) po_none (po_some (pv 1))) pa_nil))))), ?_⟩
  walk_at "rd"
  refine ⟨.ref p, rfl, p, _, rfl, .inl (SqL.of e), ?_⟩
  have hz0 : ∀ (i : Nat) a, l.length ≤ i → l[i]? = some a → (a == 0) = true := by
    intro i a hi ea
    rw [List.getElem?_eq_none hi] at ea
    cases ea
  refine ⟨fun m σ H' => m ≤ l.length ∧ (∀ (i : Nat) a, m ≤ i → l[i]? = some a → (a == 0) = true) ∧ σ = [some (.ref p), some (.int (m : Int))] ∧ H' = H, ⟨l.length, Nat.le_refl _, hz0, by rw [List.length_map]; rfl, rfl⟩, ?_⟩
  rintro m σ H1 ⟨hm, hz, rfl, rfl⟩
  refine ⟨.int m, rfl, _, rfl, ?_⟩
  have fin : (m = 0 ∨ ∃ a, l[m - 1]? = some a ∧ (a == 0) = false) → ∃ v, [some (V.ref p), some (V.int (m : Int))][0]? = some (some v) ∧ ∃ v1, [some (V.ref p), some (V.int (m : Int))][1]? = some (some v1) ∧ ∃ b, v1 = V.int b ∧ rSlL K v none (some b) H1 fun x H2 => ∃ q' ys, [x] = [.ref q'] ∧ ((SqL K H2 q' ys ∧ ∀ t, H2 t = none → Q (.ref t) (upd H2 t (.tup ys))) ∨ (SqT K H2 q' ys ∧ Q (.ref q') H2)) := fun hb => by
    refine ⟨.ref p, rfl, .int m, rfl, m, rfl, p, _, rfl, SqL.of e, fun t nt => ⟨t, _, rfl, .inl ⟨SqL.of upd_same, fun t2 nt2 => ?_⟩⟩⟩
    refine q _ _ ((same_new nt).trans (same_new nt2)) ⟨t2, rfl, ?_⟩
    rw [upd_same, cut_to (α := Nat) _ (by rw [List.length_map]; exact hm), ← List.map_take]
    congr 3
    exact (trimBy_take _ l m hm hz hb).symm
  by_cases c : m = 0
  · subst c
    exact iteF (fin (.inl rfl))
  rw [show ((m : Int) != 0) = true from bne_iff_ne.mpr (by omega)]
  obtain ⟨j, rfl⟩ : ∃ j, m = j + 1 := ⟨m - 1, by omega⟩
  have hj : j < l.length := by omega
  have ej : ((j + 1 : Nat) : Int) - 1 = (j : Int) := by omega
  refine iteT ⟨.ref p, rfl, .int (j + 1 : Nat), rfl, _, _, rfl, rfl, ?_⟩
  walk_at "rd"
  rw [ej]
  refine ⟨p, _, _, .int l[j], rfl, rfl, SqL.of e, atI_nat (by rw [List.getElem?_map, List.getElem?_eq_getElem hj]; rfl), rfl, _, rfl, ?_⟩
  rw [dec_int]
  cases z : (l[j] == 0) with
  | true =>
    refine iteT ⟨fun σ' H' => σ' = [some (.ref p), some (.int (j : Int))] ∧ H' = H1, fun σ' H' h => ⟨j, by omega, by omega, fun i a hi ea => ?_, h.1, h.2⟩, .int (j + 1 : Nat), rfl, _, _, rfl, rfl, ?_, rfl⟩
    · rcases Nat.lt_or_eq_of_le hi with y | y
      · exact hz i a y ea
      · subst y
        rw [List.getElem?_eq_getElem hj] at ea
        cases ea
        exact z
    · show [some (V.ref p), some (V.int (((j + 1 : Nat) : Int) - 1))] = _
      rw [ej]
  | false => exact iteF (fin (.inr ⟨l[j], List.getElem?_eq_getElem hj, z⟩))
theorem scScaled : FnScope ["row", "n", "m", "total", "factor", "number"] ["row", "n", "m"] (defScope sScaled) := ⟨rfl, rfl, rfl, by decide +kernel, rfl, by decide +kernel, by decide +kernel⟩
theorem ok_scaled (D : Def K mg "scaled_value" sScaled ["row", "n", "m"]) (nb : Nb mg) : Cal P w K mg base "scaled_value" 1 ["row", "n", "m"] spScaled := by
  refine D.ok scScaled (fun vs H Q E h => ?_) (fun f cdv A out s H vs Q E hr h => ?_)
  · obtain ⟨u, r, n, m, rfl, _⟩ := h; rfl
  obtain ⟨u, r, n, m, rfl, hu, n1, m0, m1, hl, q⟩ := h
  refine ⟨_, pss_cons (ps_set (i := 3) scScaled.nd rfl (Or.inl rfl) pe_int) (pss_cons (ps_set (i := 4) scScaled.nd rfl (Or.inl rfl) pe_int)
    (pss_cons (ps_for PassesOwn.never rfl (RT.pi_revA (by rfl) nb.rev (pv 0)) (pg_name (i := 5) scScaled.nd rfl (Or.inl rfl))
      (pss_cons (ps_set (i := 3) scScaled.nd rfl (Or.inl rfl) (pe_op op_add (pe_op op_mul (pv 3) (pv 1)) (pe_op op_mul (pv 5) (pv 4))))
      (pss_one (ps_aug (i := 4) scScaled.nd rfl (Or.inl rfl) (pv 2) ip_mul))))
    (pss_one (ps_ret (pv 3))))), ?_⟩
  walk_at "rd"
  obtain ⟨pu, rfl, eu⟩ := hu
  have pk : ∀ k, k ≤ 8 → m ^ k ≤ 7 ^ 8 := fun k hk => Int.le_trans (pow_le7 m0 m1 k) (pow_mono7 hk)
  refine ⟨.ref pu, rfl, pu, r.map V.int, rfl, .inr ⟨SqT.of eu, for_rev (xs := r.map V.int) (fun i σ H' => ∃ (x5 : Option V), σ = [some (.ref pu), some (.int n), some (.int m), some (.int (T n m (r.drop (r.length - i)))), some (.int (m ^ (r.drop (r.length - i)).length)), x5] ∧ H' = H) ?_ ?_ ?_ ?_⟩⟩
  · refine ⟨none, ?_, rfl⟩
    rw [Nat.sub_zero, List.drop_length, show (m ^ ([] : List Int).length : Int) = 1 from Int.pow_zero m]
    rfl
  · rintro i σ H1 hi ⟨x5, rfl, rfl⟩
    exact SqT.of eu
  · rintro i x σ H1 hi hx ⟨x5, rfl, rfl⟩
    rw [List.length_map] at hi hx
    have hix : r.length - 1 - i < r.length := by omega
    rw [List.getElem?_map, List.getElem?_eq_getElem hix] at hx
    cases hx
    have ls : (r.drop (r.length - i)).length = i := by rw [List.length_drop]; omega
    have dt := drop_top hi
    generalize r.drop (r.length - i) = sfx at ls dt ⊢
    rw [dt]
    have p0 := pow_pos' m0 sfx.length
    have p1 := pk sfx.length (by omega)
    refine ⟨.int (T n m sfx), rfl, .int n, rfl, _, _, rfl, rfl, .inr ⟨by omega, by omega⟩, .int _, rfl, .int _, rfl, _, _, rfl, rfl, .inr ⟨by omega, by omega⟩, _, _, rfl, rfl, .int _, rfl, .int m, rfl, _, _, rfl, rfl, .inr ⟨by omega, by omega⟩, some (.int r[r.length - 1 - i]), ?_, rfl⟩
    show [some (V.ref pu), some (V.int n), some (V.int m), some (V.int (T n m sfx * n + r[r.length - 1 - i] * m ^ sfx.length)), some (V.int (m ^ sfx.length * m)), some (V.int r[r.length - 1 - i])] = _
    rw [List.length_cons, Int.pow_succ, T]
  · rintro σ H1 ⟨x5, rfl, rfl⟩
    refine ⟨_, rfl, ?_⟩
    rw [List.length_map, Nat.sub_self, List.drop_zero]
    exact q _ (Same.refl _)
end
end K22

set_option Elab.async false
set_option linter.all false
set_option maxRecDepth 100000
set_option maxHeartbeats 4000000
local macro_rules | `(tactic| walk_at "rd") => `(tactic| dsimp only [Evl.tCut, L2.tSeq, L2.tNext, L2.tRet, L2.tRetN, L2.tAsg, L2.gName, L2.tIfS, L2.tDrop, L2.tCons, L2.tNil, L2.tC, L2.tVar, L2.tCB, L2.tAndV, L2.tOrV, L2.tNotV, L2.tB, L2.tTest, L2.tOp, L2.tUn, L2.tNot, L2.tAnd, L2.tOr, L2.tIf, L2.tCall, L2.tTup, L2.tLst, L2.tNotT, L2.tYes, L2.gTup, L2.gCons, L2.gNil, L2.gSub, L2.tBM0, L2.tBM, L2.tWhile, L2.tFor, L2.iRng1, L2.tCKw, L2.tAug, L2.ipI, RT.iRevA, L2.tPar, L2.tPar3, L2.tSl, L2.tNoPart, L2.tPart, Tw.tRevT])
namespace K22
open PySem PySem.Spec PyProof.Rows L2 Tw
def spTP : Sp := fun vs H Q _ => ∃ p xs rs, vs = [.ref p] ∧ H p = some (.lst xs) ∧ RoA H xs rs ∧ ∀ v H', Same H H' → Po H' v (trimP rs) → Q v H'
def spExch : Sp := fun vs H Q _ => ∃ u p b, vs = [u] ∧ Po H u p ∧ Bd 8 b p ∧ ∀ v H', Same H H' → Po H' v (exch p) → Q v H'
theorem maxN_lng (p : List (List Int)) : maxN (p.map fun r => ((r.length : Nat) : Int)) = (lng p : Int) := by
  unfold maxN
  rw [max_fold p 0 (by omega)]
  omega
section
variable {P : Program} {w : World} {K : PySem.W.Frag} {mg : Str → Option Value} {base : Heap}
theorem scPTrim : FnScope ["rows", "last"] ["rows"] (defScope sPTrim) := ⟨rfl, rfl, rfl, by decide +kernel, rfl, by decide +kernel, by decide +kernel⟩
theorem ok_ptrim (D : Def K mg "poly_trimmed" sPTrim ["rows"]) (nb : Nb mg) : Cal P w K mg base "poly_trimmed" 1 ["rows"] spTP := by
  refine D.ok scPTrim (fun vs H Q E h => ?_) (fun f cdv A out s H vs Q E hr h => ?_)
  · obtain ⟨p, xs, l, rfl, _⟩ := h; rfl
  obtain ⟨p, xs, l, rfl, e, hx, q⟩ := h
  refine ⟨_, pss_cons (ps_set (i := 1) scPTrim.nd rfl (Or.inl rfl) (pe_callB (id := "len") (r := rLn K) call_len_seq (by rfl) nb.len PySem.boot_len (pa_cons (pv 0) pa_nil)))
    (pss_cons (ps_while PassesOwn.never (PW.pt (pw_and (pt_truth (pv 1) (fun _ => rfl)) (pw_and1 (pt_not (pt_truth (pe_ix ix_list (pv 0) (pe_op op_sub (pv 1) pe_int) (fun _ _ => rfl)) (fun _ => rfl))))))
      (pss_one (ps_aug (i := 1) scPTrim.nd rfl (Or.inl rfl) pe_int ip_sub)))
    (pss_one (ps_ret (pe_callTy (T := "tuple") call_tuple_of (by rfl) nb.tup (by decide +kernel) (pa_cons (pe_slice sl_list (pv 0) po_none (po_some (pv 1))) pa_nil))))), ?_⟩
  walk_at "rd"
  have lx := hx.1
  have hz0 : ∀ (i : Nat) a, l.length ≤ i → l[i]? = some a → a.isEmpty = true := by
    intro i a hi ea
    rw [List.getElem?_eq_none hi] at ea
    cases ea
  refine ⟨.ref p, rfl, p, _, rfl, .inl (SqL.of e), ?_⟩
  refine ⟨fun m σ H' => m ≤ l.length ∧ (∀ (i : Nat) a, m ≤ i → l[i]? = some a → a.isEmpty = true) ∧ σ = [some (.ref p), some (.int (m : Int))] ∧ H' = H, ⟨l.length, Nat.le_refl _, hz0, by rw [lx]; rfl, rfl⟩, ?_⟩
  rintro m σ H1 ⟨hm, hz, rfl, rfl⟩
  refine ⟨.int m, rfl, _, rfl, ?_⟩
  have fin : (m = 0 ∨ ∃ a, l[m - 1]? = some a ∧ a.isEmpty = false) → ∃ v, [some (V.ref p), some (V.int (m : Int))][0]? = some (some v) ∧ ∃ v1, [some (V.ref p), some (V.int (m : Int))][1]? = some (some v1) ∧ ∃ b, v1 = V.int b ∧ rSlL K v none (some b) H1 fun x H2 => ∃ q' ys, [x] = [.ref q'] ∧ ((SqL K H2 q' ys ∧ ∀ t, H2 t = none → Q (.ref t) (upd H2 t (.tup ys))) ∨ (SqT K H2 q' ys ∧ Q (.ref q') H2)) := fun hb => by
    refine ⟨.ref p, rfl, .int m, rfl, m, rfl, p, _, rfl, SqL.of e, fun t nt => ⟨t, _, rfl, .inl ⟨SqL.of upd_same, fun t2 nt2 => ?_⟩⟩⟩
    have s2 := (same_new (o := .lst (L2.cutV xs none (some (m : Int)))) nt).trans (same_new (o := .tup (L2.cutV xs none (some (m : Int)))) nt2)
    refine q _ _ s2 ⟨t2, _, rfl, upd_same, ?_⟩
    rw [cut_to (α := Nat) xs (by rw [lx]; exact hm)] at s2 ⊢
    rw [show trimP l = l.take m from trimBy_take _ l m hm hz hb]
    exact (RoA.kt (Kt.of s2) hx).take m
  by_cases c : m = 0
  · subst c
    exact iteF (fin (.inl rfl))
  rw [show ((m : Int) != 0) = true from bne_iff_ne.mpr (by omega)]
  obtain ⟨j, rfl⟩ : ∃ j, m = j + 1 := ⟨m - 1, by omega⟩
  have hj : j < l.length := by omega
  have ej : ((j + 1 : Nat) : Int) - 1 = (j : Int) := by omega
  refine iteT ⟨.ref p, rfl, .int (j + 1 : Nat), rfl, _, _, rfl, rfl, ?_⟩
  walk_at "rd"
  rw [ej]
  obtain ⟨x, gx, pr, rfl, er⟩ := hx.get hj
  refine ⟨p, _, _, .ref pr, rfl, rfl, SqL.of e, atI_nat gx, _, .inr (.inl ⟨_, SqT.of er, rfl⟩), ?_⟩
  have ee : (l[j].map V.int).isEmpty = l[j].isEmpty := by cases l[j] <;> rfl
  rw [ee, Bool.not_not]
  cases z : l[j].isEmpty with
  | true =>
    refine iteT ⟨fun σ' H' => σ' = [some (.ref p), some (.int (j : Int))] ∧ H' = H1, fun σ' H' h => ⟨j, by omega, by omega, fun i a hi ea => ?_, h.1, h.2⟩, .int (j + 1 : Nat), rfl, _, _, rfl, rfl, ?_, rfl⟩
    · rcases Nat.lt_or_eq_of_le hi with y | y
      · exact hz i a y ea
      · subst y
        rw [List.getElem?_eq_getElem hj] at ea
        cases ea
        exact z
    · show [some (V.ref p), some (V.int (((j + 1 : Nat) : Int) - 1))] = _
      rw [ej]
  | false => exact iteF (fin (.inr ⟨l[j], List.getElem?_eq_getElem hj, z⟩))
theorem scPExch : FnScope ["poly", "longest", "rows", "k", "row"] ["poly"] (defScope sPExch) := ⟨rfl, rfl, rfl, by decide +kernel, rfl, by decide +kernel, by decide +kernel⟩
theorem ok_pexch (D : Def K mg "poly_exchanged" sPExch ["poly"]) (nb : Nb mg) (c2 : Cal P w K mg base "trimmed" 1 ["numbers"] spTrimI) (c3 : Cal P w K mg base "poly_trimmed" 1 ["rows"] spTP) : Cal P w K mg base "poly_exchanged" 2 ["poly"] spExch := by
  refine D.ok scPExch (fun vs H Q E h => ?_) (fun f cdv A out s H vs Q E hr h => ?_)
  · obtain ⟨u, p, b, rfl, _⟩ := h; rfl
  obtain ⟨u, p, b, rfl, hp, hb, q⟩ := h
  refine ⟨_, pss_cons (ps_set (i := 1) scPExch.nd rfl (Or.inl rfl) (pe_callBK (r := rMaxZ K) (id := "max") (cr_maxZ rfl hr.units) (by rfl) nb.max (by decide +kernel) (pa_cons
          (pe_lc (own := [("row", 4)]) (g := gName 4) (tt := tYes) rfl scPExch.nd (pi_tup (pv 0)) (blkOk_by (N := ["poly", "longest", "rows", "k", "row"]) (sc := defScope sPExch) (by decide +kernel))
            (fun _ _ _ _ _ => pg_name (i := 4) scPExch.nd rfl (Or.inl rfl)) (fun _ _ _ _ _ => pts_nil) (fun _ _ _ _ _ => pe_callB (id := "len") (r := rLn K) call_len_seq (by rfl) nb.len PySem.boot_len (pa_cons (pv 4) pa_nil))) pa_nil) (pk_cons pe_int pk_nil)))
    (pss_cons (ps_set (i := 2) scPExch.nd rfl (Or.inl rfl) (pe_lst pa_nil))
    (pss_cons (ps_for PassesOwn.never rfl (pi_range1 (by rfl) nb.rng (pa_cons (pv 1) pa_nil))
        (pg_name (i := 3) scPExch.nd rfl (Or.inr rfl))
        (pss_one (ps_expr (pe_bm PySem.F.plainAttrs_list PySem.F.slot_list_append PySem.F.type_list_append mt_append (pv 2) (pa_cons (pe_cal c2 hr (by decide) (by rfl) (pa_cons
          (pe_lc (own := [("row", 4)]) (g := gName 4) (tt := tYes) rfl scPExch.nd (pi_tup (pv 0)) (blkOk_by (N := ["poly", "longest", "rows", "k", "row"]) (sc := defScope sPExch) (by decide +kernel))
            (fun _ _ _ _ _ => pg_name (i := 4) scPExch.nd rfl (Or.inl rfl)) (fun _ _ _ _ _ => pts_nil)
            (fun _ _ _ _ _ => pe_ifExp (pt_cmpR op_lt (pv 3) (pe_callB (id := "len") (r := rLn K) call_len_seq (by rfl) nb.len PySem.boot_len (pa_cons (pv 4) pa_nil)) (nomark _)) (pe_ix (r := rIxT K) ix_tup (pv 4) (pv 3) (fun _ _ => rfl)) pe_int)) pa_nil)) pa_nil)))))
    (pss_one (ps_ret (pe_cal c3 hr (by decide) (by rfl) (pa_cons (pv 2) pa_nil)))))), ?_⟩
  walk_at "rd"
  obtain ⟨pu, xs, rfl, eu, hx⟩ := hp
  have lb := hb.1
  refine lc_relT (S := Ro) (R := fun _ v k => v = V.int k) (g := fun r => ((r.length : Nat) : Int)) (rs := p) (p := pu) (xs := xs) stable_ro (stable_eq _) rfl eu hx (by omega) (fun x => wipeJ _ _ _) (fun x r H2 hr2 s2 rx Z hZ => ?_) fun D ys H2 s2 nD eD ry => ?_
  · obtain ⟨pr, rfl, er⟩ := rx
    exact ⟨.ref pr, rfl, pr, _, rfl, .inr (SqT.of er), hZ _ _ (Same.refl _) (by rw [List.length_map])⟩
  have ey : ys = (p.map fun r => ((r.length : Nat) : Int)).map V.int := RelA.eq_map ry
  subst ey
  refine ⟨D, _, rfl, rfl, SqL.of eD, fun n hn => ?_, ?_⟩
  · obtain ⟨r, _, rfl⟩ := List.mem_map.mp hn
    omega
  rw [maxN_lng]
  have l8 : lng p ≤ 8 := lng_bd fun r hr => (hb.2 r hr).1
  refine ⟨sz (by simp), fun L nL2 => ?_⟩
  have nL : H L = none := s2.free nL2
  have s3 := s2.trans (same_new (o := .lst []) nL2)
  have eL3 : upd H2 L (.lst []) L = some (.lst []) := upd_same
  generalize upd H2 L (.lst []) = H3 at s3 eL3 ⊢
  refine ⟨.int (lng p : Int), rfl, (lng p : Int), rfl, by omega, by omega, for_rng (lo := 0) (n := (lng p : Int).toNat) (fun i σ H' => ∃ (x3 : Option V) (ys : List V), σ = [some (.ref pu), some (.int (lng p : Int)), some (.ref L), x3, none] ∧ Same H H' ∧ H' L = some (.lst ys) ∧ RelA Ro H' ys ((List.range i).map (col p))) ?_ ?_ ?_⟩
  · exact ⟨none, [], rfl, s3, eL3, rfl, fun i v e => by simp at e⟩
  · rintro i σ H4 hi ⟨x2, ys, rfl, s4, e4, r4⟩
    walk_at "rd"
    refine ⟨.ref L, rfl, .inl ⟨rfl, _, SqL.of e4⟩, ?_⟩
    refine lc_relT (S := Ro) (R := fun _ v k => v = V.int k) (g := fun r => r.getD i 0) (rs := p) (p := pu) (xs := xs) stable_ro (stable_eq _) rfl (s4 _ _ eu) (RoA.kt (Kt.of s4) hx) (by omega) (fun x => wipeJ _ _ _) (fun x r H5 hr5 s5 rx Z hZ => ?_) fun D ys2 H5 s5 nD eD ry => ?_
    · obtain ⟨pr, rfl, er⟩ := rx
      walk_at "rd"
      refine ⟨.int (0 + (i : Int)), rfl, .ref pr, rfl, pr, _, rfl, .inr (SqT.of er), _, _, rfl, rfl, _, rfl, ite2 (fun c => ?_) (fun c => ?_)⟩
      · have c := of_decide_eq_true c
        rw [List.length_map] at c
        have hi2 : i < r.length := by omega
        refine ⟨.ref pr, rfl, .int (0 + (i : Int)), rfl, pr, _, _, .int (r.getD i 0), rfl, rfl, SqT.of er, ?_, hZ _ _ (Same.refl _) rfl⟩
        rw [Int.zero_add]
        refine atI_nat ?_
        rw [List.getElem?_map, List.getElem?_eq_getElem hi2, List.getD_eq_getElem?_getD, List.getElem?_eq_getElem hi2]
        rfl
      · have c : ¬ (i < r.length) := fun z => c (decide_eq_true (by rw [List.length_map]; omega))
        refine hZ _ _ (Same.refl _) ?_
        rw [List.getD_eq_getElem?_getD, List.getElem?_eq_none (by omega)]
        rfl
    have ey : ys2 = (p.map fun r => r.getD i 0).map V.int := RelA.eq_map ry
    subst ey
    refine ⟨D, _, rfl, eD, fun v H6 s6 r6 => ⟨L, ys, v, rfl, rfl, (s5.trans s6) _ _ e4, ?_, ?_⟩⟩
    · have := r4.1
      rw [List.length_map, List.length_range] at this
      exact lt_line (by omega)
    · have e6 := (s5.trans s6) _ _ e4
      refine ⟨some (.int (0 + (i : Int))), ys ++ [v], rfl, same_upd ((s4.trans s5).trans s6) nL, upd_same, ?_⟩
      rw [List.range_succ, List.map_append]
      exact ((r4.kt stable_ro (Kt.of (s5.trans s6))).snoc r6).kt stable_ro (kt_upd e6)
  · rintro σ H4 ⟨x2, ys, rfl, s4, e4, r4⟩
    exact ⟨.ref L, rfl, L, ys, _, rfl, e4, r4, fun v H5 s5 p5 => q v H5 (s4.trans s5) p5⟩
end
end K22

set_option Elab.async false
set_option linter.all false
set_option maxRecDepth 100000
set_option maxHeartbeats 4000000
local macro_rules | `(tactic| walk_at "rd") => `(tactic| dsimp only [Evl.tCut, L2.tSeq, L2.tNext, L2.tRet, L2.tRetN, L2.tAsg, L2.gName, L2.tIfS, L2.tDrop, L2.tCons, L2.tNil, L2.tC, L2.tVar, L2.tCB, L2.tAndV, L2.tOrV, L2.tNotV, L2.tB, L2.tTest, L2.tOp, L2.tUn, L2.tNot, L2.tAnd, L2.tOr, L2.tIf, L2.tCall, L2.tTup, L2.tLst, L2.tNotT, L2.tYes, L2.gTup, L2.gCons, L2.gNil, L2.gSub, L2.tBM0, L2.tBM, L2.tWhile, L2.tFor, L2.iRng1, L2.tCKw, L2.tAug, L2.ipI, RT.iRevA, L2.tPar, L2.tPar3, L2.tSl, L2.tNoPart, L2.tPart, Tw.tRevT])
namespace K22
open PySem PySem.Spec PyProof.Rows L2 Tw
def spChkP : Sp := fun vs H Q _ => ∃ a v p b, vs = [v] ∧ We a H ∧ Po H v p ∧ okP p ∧ Bd 8 b p ∧ ∀ x H', Same H H' → Q x H'
def spChkF : Sp := fun vs H Q _ => ∃ v n m, vs = [v] ∧ Pr H v n m ∧ Sp1 n m ∧ ∀ x H', Same H H' → Q x H'
section
variable {P : Program} {w : World} {K : PySem.W.Frag} {mg : Str → Option Value} {base : Heap}
theorem scChkP : FnScope ["poly"] ["poly"] (defScope sChkP) := ⟨rfl, rfl, rfl, by decide +kernel, rfl, by decide +kernel, by decide +kernel⟩
theorem ok_chkp (D : Def K mg "check_poly" sChkP ["poly"]) (c1 : Cal P w K mg base "is_poly" 3 ["value"] (spB polyB)) : Cal P w K mg base "check_poly" 4 ["poly"] spChkP := by
  refine D.ok scChkP (fun vs H Q E h => ?_) (fun f cdv A out s H vs Q E hr h => ?_)
  · obtain ⟨a, v, p, b, rfl, _⟩ := h; rfl
  obtain ⟨a, v, p, b, rfl, hw, hp, ok, hb, q⟩ := h
  refine ⟨_, pss_one (ps_if (pt_not (pt_val (pe_cal c1 hr (by decide) (by rfl) (pa_cons (pv 0) pa_nil)))) pss_dead pss_nil), ?_⟩
  walk_at "rd"
  refine ⟨v, rfl, a, v, polyD p, 2, rfl, da_poly hw hp, (sm_poly hb).up (Nat.le_refl _) (by decide), fun H1 s1 => ⟨true, ?_, ?_⟩⟩
  · rw [polyB_ok ok]
  · exact iteF (q _ H1 s1)
theorem scChkF : FnScope ["fraction"] ["fraction"] (defScope sChkF) := ⟨rfl, rfl, rfl, by decide +kernel, rfl, by decide +kernel, by decide +kernel⟩
theorem ok_chkf (D : Def K mg "check_fraction" sChkF ["fraction"]) (c1 : Cal P w K mg base "is_fraction" 2 ["value"] spFrac) : Cal P w K mg base "check_fraction" 4 ["fraction"] spChkF := by
  refine (show Cal P w K mg base "check_fraction" 3 ["fraction"] spChkF from ?_).up (by decide)
  refine D.ok scChkF (fun vs H Q E h => ?_) (fun f cdv A out s H vs Q E hr h => ?_)
  · obtain ⟨v, n, m, rfl, _⟩ := h; rfl
  obtain ⟨v, n, m, rfl, hv, ⟨n1, m0, m1, co⟩, q⟩ := h
  refine ⟨_, pss_one (ps_if (pt_not (pt_val (pe_cal c1 hr (by decide) (by rfl) (pa_cons (pv 0) pa_nil)))) pss_dead pss_nil), ?_⟩
  walk_at "rd"
  exact ⟨v, rfl, v, n, m, rfl, hv, m0, co, fun H1 s1 => ⟨true, rfl, iteF (q _ H1 s1)⟩⟩
end
end K22

set_option Elab.async false
set_option linter.all false
set_option maxRecDepth 100000
set_option maxHeartbeats 4000000
local macro_rules | `(tactic| walk_at "rd") => `(tactic| dsimp only [Evl.tCut, L2.tSeq, L2.tNext, L2.tRet, L2.tRetN, L2.tAsg, L2.gName, L2.tIfS, L2.tDrop, L2.tCons, L2.tNil, L2.tC, L2.tVar, L2.tCB, L2.tAndV, L2.tOrV, L2.tNotV, L2.tB, L2.tTest, L2.tOp, L2.tUn, L2.tNot, L2.tAnd, L2.tOr, L2.tIf, L2.tCall, L2.tTup, L2.tLst, L2.tNotT, L2.tYes, L2.gTup, L2.gCons, L2.gNil, L2.gSub, L2.tBM0, L2.tBM, L2.tWhile, L2.tFor, L2.iRng1, L2.tAugS, Tw.iEnumT, L2.tCKw, L2.tAug, L2.ipI, RT.iRevA, L2.tPar, L2.tPar3, L2.tSl, L2.tNoPart, L2.tPart, Tw.tRevT])
namespace K22
open PySem PySem.Spec PyProof.Rows L2 Tw
def rGetL (K : PySem.W.Frag) : V → V → Hp → VK → Prop := fun o i H Q => ∃ (p : Addr) (xs : List V) (j : Nat) (x : V), o = .ref p ∧ i = .int (j : Int) ∧ SqL K H p xs ∧ xs[j]? = some x ∧ Q x H
section
variable {X : Cx}
theorem get_l : PGet X (rGetL X.K) := by
  intro pins s σ H o i ov iv Q I ro ri h
  obtain ⟨p, xs, j, x, rfl, rfl, hq, hx, q⟩ := h
  cases ro
  obtain ⟨t, rfl⟩ := ri
  obtain ⟨its, r, pl, hz⟩ := I.list hq
  obtain ⟨w, ew, rw'⟩ := r.get hx
  have hl := r.length
  have hj : j < its.length := (List.getElem?_eq_some_iff.mp ew).1
  have hn := line63
  exact wpAny_getItem_list (x := w) pl.isList (by omega) (by omega) (by rw [Int.toNat_natCast]; simpa using ew) ⟨x, H, I, rw', q⟩
end
def spAddR : Sp := fun vs H Q _ => ∃ u v r s, vs = [u, v] ∧ Ro H u r ∧ Ro H v s ∧ r.length ≤ 100 ∧ s.length ≤ 100 ∧ ∀ z t H', Same H H' → Ro H' z t → okR t → (∀ k, g t k = g r k + g s k) → Q z H'
section
variable {P : Program} {w : World} {K : PySem.W.Frag} {mg : Str → Option Value} {base : Heap}
theorem scPRSum : FnScope ["row", "other", "found", "k", "number"] ["row", "other"] (defScope sPRSum) := ⟨rfl, rfl, rfl, by decide +kernel, rfl, by decide +kernel, by decide +kernel⟩
theorem ok_prsum (D : Def K mg "row_sum" sPRSum ["row", "other"]) (nb : Nb mg) (ne : mg "enumerate" = none) (c1 : Cal P w K mg base "trimmed" 1 ["numbers"] spTrimI) : Cal P w K mg base "row_sum" 2 ["row", "other"] spAddR := by
  refine D.ok scPRSum (fun vs H Q E h => ?_) (fun f cdv A out s H vs Q E hr h => ?_)
  · obtain ⟨u, v, r, s, rfl, _⟩ := h; rfl
  obtain ⟨u, v, r, t, rfl, hu, hv, lr, lt, q⟩ := h
  refine ⟨_, Evl.pss_cut (ps_if (pt_cmpR op_lt (pe_callB (id := "len") (r := rLn K) call_len_seq (by rfl) nb.len PySem.boot_len (pa_cons (pv 0) pa_nil)) (pe_callB (id := "len") (r := rLn K) call_len_seq (by rfl) nb.len PySem.boot_len (pa_cons (pv 1) pa_nil)) (nomark _))
        (pss_one (ps_par (i := 0) (j := 1) rfl scPRSum.nd rfl rfl (by decide) rfl rfl (pa_cons (pv 1) (pa_cons (pv 0) pa_nil)) rfl)) pss_nil)
    (pss_cons (ps_set (i := 2) scPRSum.nd rfl (Or.inl rfl) (pe_callTy (T := "list") call_list_of (by rfl) nb.lst (by decide +kernel) (pa_cons (pv 0) pa_nil)))
    (pss_cons (ps_for PassesOwn.never rfl (pi_enumT (by rfl) ne (pv 1)) (pg_tup rfl (pgs_cons (pg_name (i := 3) scPRSum.nd rfl (Or.inl rfl)) (pgs_cons (pg_name (i := 4) scPRSum.nd rfl (Or.inl rfl)) pgs_nil)))
        (pss_one (ps_augS (pv 2) (pv 3) get_l (pv 4) ip_add set_list)))
    (pss_one (ps_ret (pe_cal c1 hr (by decide) (by rfl) (pa_cons (pv 2) pa_nil)))))), ?_⟩
  walk_at "rd"
  obtain ⟨pu, rfl, eu⟩ := hu
  obtain ⟨pw, rfl, ev⟩ := hv
  refine ⟨fun σ H' => ∃ (pa pb : Addr) (a b : List Int), σ = [some (.ref pa), some (.ref pb), none, none, none] ∧ H' = H ∧ H pa = some (.tup (a.map V.int)) ∧ H pb = some (.tup (b.map V.int)) ∧ b.length ≤ a.length ∧ a.length ≤ 100 ∧ ∀ k, g a k + g b k = g r k + g t k, ?_, ?_⟩
  · refine ⟨.ref pu, rfl, pu, _, rfl, .inr (SqT.of eu), .ref pw, rfl, pw, _, rfl, .inr (SqT.of ev), _, _, rfl, rfl, _, rfl, ite2 (fun c => ?_) (fun c => ?_)⟩
    · have c := of_decide_eq_true c
      rw [List.length_map, List.length_map] at c
      exact ⟨.ref pw, rfl, .ref pu, rfl, _, _, rfl, pw, pu, t, r, rfl, rfl, ev, eu, by omega, lt, fun k => by omega⟩
    · have c : ¬ ((r.length : Int) < (t.length : Int)) := fun z => c (decide_eq_true (by rw [List.length_map, List.length_map]; exact z))
      exact ⟨pu, pw, r, t, rfl, rfl, eu, ev, by omega, lr, fun k => rfl⟩
  clear eu ev
  rintro σ H0 ⟨pa, pb, a, b, rfl, rfl, ea, eb, lb, la, cs⟩
  refine ⟨.ref pa, rfl, pa, _, rfl, .inr (SqT.of ea), fun L nL => ?_⟩
  have s1 := same_new (o := .lst (a.map V.int)) nL
  have eL : upd H0 L (.lst (a.map V.int)) L = some (.lst (a.map V.int)) := upd_same
  generalize upd H0 L (.lst (a.map V.int)) = H1 at s1 eL ⊢
  refine ⟨.ref pb, rfl, pb, b.map V.int, rfl, SqT.of (s1 _ _ eb), for_enumT (xs := b.map V.int) (fun i σ H' => ∃ (x3 x4 : Option V) (l : List Int), σ = [some (.ref pa), some (.ref pb), some (.ref L), x3, x4] ∧ Same H0 H' ∧ H' L = some (.lst (l.map V.int)) ∧ l.length = a.length ∧ ∀ k, g l k = g a k + (if k < i then g b k else 0)) ?_ ?_ ?_ ?_⟩
  · exact ⟨none, none, a, rfl, s1, eL, rfl, fun k => by rw [if_neg (by omega), Int.add_zero]⟩
  · rintro i σ H' hi ⟨x3, x4, l, rfl, s', _⟩
    exact SqT.of (s' _ _ eb)
  · rintro i x p σ H' hx ⟨x3, x4, l, rfl, s', el, ll, cl⟩ np
    rw [List.getElem?_map] at hx
    cases hb : b[i]? with
    | none => rw [hb] at hx; cases hx
    | some c =>
      rw [hb] at hx
      cases hx
      have ib := (List.getElem?_eq_some_iff.mp hb).1
      have gb : g b i = c := by
        rw [g_some ib]
        exact (List.getElem?_eq_some_iff.mp hb).2
      have il : i < l.length := by omega
      have s2 := s'.trans (same_new (o := .tup [.int (i : Nat), .int c]) np)
      have el2 : upd H' p (.tup [.int (i : Nat), .int c]) L = some (.lst (l.map V.int)) := by
        rw [upd_ne (ne_of_none el np)]; exact el
      refine ⟨p, _, rfl, SqT.of upd_same, rfl, _, _, rfl, _, _, rfl, rfl, ?_⟩
      generalize upd H' p (.tup [.int (i : Nat), .int c]) = H2 at s2 el2 ⊢
      refine ⟨.ref L, rfl, .int (i : Nat), rfl, L, _, i, .int l[i], rfl, rfl, SqL.of el2, by rw [List.getElem?_map, List.getElem?_eq_getElem il]; rfl, .int c, rfl, _, _, rfl, rfl, L, _, _, i, rfl, rfl, el2, Evl.ixN_nat (by rw [List.length_map]; exact il), ?_⟩
      refine ⟨some (.int (i : Nat)), some (.int c), l.set i (l[i] + c), rfl, same_upd s2 nL, by rw [upd_same, map_set'], by rw [List.length_set]; exact ll, fun k => ?_⟩
      rw [g_set il, cl k]
      by_cases e : k = i
      · subst e
        rw [if_pos rfl, if_pos (by omega), ← g_some il, cl k, if_neg (by omega), gb, Int.add_zero]
      · rw [if_neg e]
        congr 1
        by_cases e2 : k < i
        · rw [if_pos e2, if_pos (by omega)]
        · rw [if_neg e2, if_neg (by omega)]
  · rintro σ H' ⟨x3, x4, l, rfl, s', el, ll, cl⟩
    refine ⟨.ref L, rfl, L, l, rfl, el, fun z H2 s2 r2 => q z _ H2 (s'.trans s2) r2 (okR_trim _) fun k => ?_⟩
    rw [g_trim, cl k, List.length_map, ← cs k]
    congr 1
    by_cases e : k < b.length
    · rw [if_pos e]
    · rw [if_neg e, g_none (show b.length ≤ k by omega)]
end
end K22

set_option Elab.async false
set_option linter.all false
set_option maxRecDepth 100000
set_option maxHeartbeats 4000000
local macro_rules | `(tactic| walk_at "rd") => `(tactic| dsimp only [Evl.tCut, L2.tSeq, L2.tNext, L2.tRet, L2.tRetN, L2.tAsg, L2.gName, L2.tIfS, L2.tDrop, L2.tCons, L2.tNil, L2.tC, L2.tVar, L2.tCB, L2.tAndV, L2.tOrV, L2.tNotV, L2.tB, L2.tTest, L2.tOp, L2.tUn, L2.tNot, L2.tAnd, L2.tOr, L2.tIf, L2.tCall, L2.tTup, L2.tLst, L2.tNotT, L2.tYes, L2.gTup, L2.gCons, L2.gNil, L2.gSub, L2.tBM0, L2.tBM, L2.tWhile, L2.tFor, L2.iRng1, L2.tAugS, Tw.iEnumT, L2.tCKw, L2.tAug, L2.ipI, RT.iRevA, L2.tPar, L2.tPar3, L2.tSl, L2.tNoPart, L2.tPart, Tw.tRevT])
namespace K22
open PySem PySem.Spec PyProof.Rows L2 Tw
def spMulR : Sp := fun vs H Q _ => ∃ u v r s b, vs = [u, v] ∧ Ro H u r ∧ Ro H v s ∧ okR r ∧ okR s ∧ r.length ≤ 100 ∧ s.length ≤ 100 ∧ min r.length s.length ≤ 6 ∧ SB b r ∧ SB b s ∧ b < 2 ^ 64 ∧ ∀ z t H', Same H H' → Ro H' z t → okR t → t.length ≤ r.length + s.length → (∀ k, g t k = cv (g r) (g s) k) → Q z H'
/-- the last of a product -/
theorem cv_top {f h : Nat → Int} {n m : Nat} (zf : ∀ i, n < i → f i = 0) (zh : ∀ i, m < i → h i = 0) : cv f h (n + m) = f n * h m := by
  unfold cv
  have e : S (n + m + 1) (fun i => f i * h (n + m - i)) = S (n + 1) (fun i => f i * h (n + m - i)) := S_more (by omega) fun i hi => by rw [zf i (by omega), Int.zero_mul]
  rw [e, S, S_ext (h := fun _ => 0) n fun i hi => by rw [zh _ (by omega), Int.mul_zero], S_zero, Int.zero_add]
  congr 2
  omega
theorem okR_last {r : List Int} (h : okR r) (n : r ≠ []) : g r (r.length - 1) ≠ 0 := by
  have l : 0 < r.length := List.length_pos_iff.mpr n
  have e : r.getLast? = some r[r.length - 1] := by rw [List.getLast?_eq_getElem?, List.getElem?_eq_getElem (by omega)]
  rw [g_some (by omega)]
  exact h _ e
theorem okR_prod {a b l : List Int} (ha : okR a) (hb : okR b) (na : a ≠ []) (nb : b ≠ []) (ll : l.length = a.length + b.length - 1) (cl : ∀ k, g l k = cv (g b) (g a) k) : okR l := fun c hc => by
  have la : 0 < a.length := List.length_pos_iff.mpr na
  have lb : 0 < b.length := List.length_pos_iff.mpr nb
  rw [List.getLast?_eq_getElem?] at hc
  have e : g l (l.length - 1) = c := by
    unfold g
    rw [List.getD_eq_getElem?_getD, hc]
    rfl
  rw [cl, show l.length - 1 = (b.length - 1) + (a.length - 1) from by omega, cv_top (fun i hi => g_none (by omega)) (fun i hi => g_none (by omega))] at e
  rw [← e]
  exact Int.mul_ne_zero (okR_last hb nb) (okR_last ha na)
section
variable {P : Program} {w : World} {K : PySem.W.Frag} {mg : Str → Option Value} {base : Heap}
theorem scPRTimes : FnScope ["row", "other", "bits", "found", "k", "number", "at", "factor"] ["row", "other"] (defScope sPRTimes) := ⟨rfl, rfl, rfl, by decide +kernel, rfl, by decide +kernel, by decide +kernel⟩
theorem ok_prtimes (D : Def K mg "row_times" sPRTimes ["row", "other"]) (nb : Nb mg) (ne : mg "enumerate" = none) (ns : ∃ t, mg "SHORT" = some (.int 6 t)) : Cal P w K mg base "row_times" 1 ["row", "other"] spMulR := by
  refine D.ok scPRTimes (fun vs H Q E h => ?_) (fun f cdv A out s H vs Q E hr h => ?_)
  · obtain ⟨u, v, r, s, b, rfl, _⟩ := h; rfl
  obtain ⟨u, v, r, t, bb, rfl, hu, hv, okr, okt, lr, lt, lmin, br, bt, b64, q⟩ := h
  obtain ⟨tk, ns⟩ := ns
  refine ⟨_, pss_cons (ps_if (PW.pt (pw_or (pt_not (pt_truth (pv 0) (fun _ => rfl))) (pw_or1 (pt_not (pt_truth (pv 1) (fun _ => rfl)))))) (pss_one (ps_ret (pe_tup pa_nil))) pss_nil)
    (Evl.pss_cut (ps_if (pt_cmpR op_lt (pe_callB (id := "len") (r := rLn K) call_len_seq (by rfl) nb.len PySem.boot_len (pa_cons (pv 0) pa_nil)) (pe_callB (id := "len") (r := rLn K) call_len_seq (by rfl) nb.len PySem.boot_len (pa_cons (pv 1) pa_nil)) (nomark _))
        (pss_one (ps_par (i := 0) (j := 1) rfl scPRTimes.nd rfl rfl (by decide) rfl rfl (pa_cons (pv 1) (pa_cons (pv 0) pa_nil)) rfl)) pss_nil)
    (pss_cons (ps_if (pt_cmpR op_gt (pe_callB (id := "len") (r := rLn K) call_len_seq (by rfl) nb.len PySem.boot_len (pa_cons (pv 1) pa_nil)) (pe_glob (v := .int 6) (by rfl) ns ⟨tk, rfl⟩) (nomark _)) pss_dead pss_nil)
    (pss_cons (ps_set (i := 3) scPRTimes.nd rfl (Or.inl rfl) (pe_op op_rep (pe_lst (pa_cons pe_int pa_nil)) (pe_op op_sub (pe_op op_add (pe_callB (id := "len") (r := rLn K) call_len_seq (by rfl) nb.len PySem.boot_len (pa_cons (pv 0) pa_nil)) (pe_callB (id := "len") (r := rLn K) call_len_seq (by rfl) nb.len PySem.boot_len (pa_cons (pv 1) pa_nil))) pe_int)))
    (pss_cons (ps_for PassesOwn.never rfl (pi_enumT (by rfl) ne (pv 1)) (pg_tup rfl (pgs_cons (pg_name (i := 4) scPRTimes.nd rfl (Or.inl rfl)) (pgs_cons (pg_name (i := 5) scPRTimes.nd rfl (Or.inl rfl)) pgs_nil)))
        (pss_one (ps_if (pt_truth (pv 5) (fun _ => rfl))
          (pss_one (ps_for PassesOwn.never rfl (pi_enumT (by rfl) ne (pv 0)) (pg_tup rfl (pgs_cons (pg_name (i := 6) scPRTimes.nd rfl (Or.inl rfl)) (pgs_cons (pg_name (i := 7) scPRTimes.nd rfl (Or.inl rfl)) pgs_nil)))
            (pss_one (ps_augS (pv 3) (pe_op op_add (pv 6) (pv 4)) get_l (pe_op op_mul (pv 7) (pv 5)) ip_add set_list)))) pss_nil)))
    (pss_one (ps_ret (pe_callTy (T := "tuple") call_tuple_of (by rfl) nb.tup (by decide +kernel) (pa_cons (pv 3) pa_nil)))))))), ?_⟩
  walk_at "rd"
  obtain ⟨pu, rfl, eu⟩ := hu
  obtain ⟨pw, rfl, ev⟩ := hv
  have emp : ∀ l : List Int, (l.map V.int).isEmpty = l.isEmpty := fun l => by cases l <;> rfl
  have ret0 : (∀ k, cv (g r) (g t) k = 0) → ([] : List V).length ≤ sizeLine ∧ ∀ p, H p = none → Q (.ref p) (upd H p (.tup [])) := fun hz =>
    ⟨sz (by simp), fun p np => q _ [] _ (same_new np) ⟨p, rfl, upd_same⟩ okR_nil (by simp) fun k => (hz k).symm⟩
  refine ⟨.ref pu, rfl, _, .inr (.inl ⟨_, SqT.of eu, rfl⟩), ?_⟩
  rw [emp]
  cases er : r.isEmpty with
  | true =>
    have : r = [] := by simpa using er
    exact iteT (iteT (ret0 fun k => cv_zero (fun i => by rw [this]; rfl) k))
  | false =>
  refine iteF ⟨.ref pw, rfl, _, .inr (.inl ⟨_, SqT.of ev, rfl⟩), ?_⟩
  rw [emp]
  cases et : t.isEmpty with
  | true =>
    have : t = [] := by simpa using et
    exact iteT (ret0 fun k => by rw [cv_comm]; exact cv_zero (fun i => by rw [this]; rfl) k)
  | false =>
  refine iteF ?_
  have nr : r ≠ [] := fun z => by rw [z] at er; cases er
  have nt : t ≠ [] := fun z => by rw [z] at et; cases et
  refine ⟨fun σ H' => ∃ (pa pb : Addr) (a b : List Int), σ = [some (.ref pa), some (.ref pb), none, none, none, none, none, none] ∧ H' = H ∧ H pa = some (.tup (a.map V.int)) ∧ H pb = some (.tup (b.map V.int)) ∧ b.length ≤ 6 ∧ a.length ≤ 100 ∧ okR a ∧ okR b ∧ a ≠ [] ∧ b ≠ [] ∧ SB bb a ∧ SB bb b ∧ a.length + b.length = r.length + t.length ∧ ∀ k, cv (g b) (g a) k = cv (g r) (g t) k, ?_, ?_⟩
  · refine ⟨.ref pu, rfl, pu, _, rfl, .inr (SqT.of eu), .ref pw, rfl, pw, _, rfl, .inr (SqT.of ev), _, _, rfl, rfl, _, rfl, ite2 (fun c => ?_) (fun c => ?_)⟩
    · have c := of_decide_eq_true c
      rw [List.length_map, List.length_map] at c
      exact ⟨.ref pw, rfl, .ref pu, rfl, _, _, rfl, pw, pu, t, r, rfl, rfl, ev, eu, by omega, lt, okt, okr, nt, nr, bt, br, by omega, fun k => rfl⟩
    · have c : ¬ ((r.length : Int) < (t.length : Int)) := fun z => c (decide_eq_true (by rw [List.length_map, List.length_map]; exact z))
      exact ⟨pu, pw, r, t, rfl, rfl, eu, ev, by omega, lr, okr, okt, nr, nt, br, bt, rfl, fun k => cv_comm _ _ _⟩
  clear eu ev
  rintro σ H0 ⟨pa, pb, a, b, rfl, rfl, ea, eb, lb, la, oka, okb, na, nb', ba, bb', lab, cs⟩
  have la0 : 0 < a.length := List.length_pos_iff.mpr na
  have lb0 : 0 < b.length := List.length_pos_iff.mpr nb'
  refine ⟨.ref pb, rfl, pb, _, rfl, .inr (SqT.of eb), _, _, rfl, rfl, _, rfl, ite2 (fun c => ?_) (fun _ => ?_)⟩
  · have c := of_decide_eq_true c
    rw [List.length_map] at c
    omega
  refine ⟨sz (by simp), fun L0 nL0 => ?_⟩
  have s0 := same_new (o := .lst [.int 0]) nL0
  refine ⟨.ref pa, rfl, pa, _, rfl, .inr (SqT.of (s0 _ _ ea)), .ref pb, rfl, pb, _, rfl, .inr (SqT.of (s0 _ _ eb)), _, _, rfl, rfl, _, _, rfl, rfl, L0, _, _, rfl, rfl, upd_same, by rw [List.length_map, List.length_map]; omega, by rw [List.length_map, List.length_map]; omega, ?_, fun L nL => ?_⟩
  · have := sz (n := ((a.map V.int).length + (b.map V.int).length)) (by rw [List.length_map, List.length_map]; omega)
    show 1 * _ ≤ _
    rw [Nat.one_mul]
    omega
  have el0 : ((((a.map V.int).length : Nat) : Int) + (((b.map V.int).length : Nat) : Int) - 1).toNat = a.length + b.length - 1 := by rw [List.length_map, List.length_map]; omega
  rw [el0, flat_one]
  have nL' : H0 L = none := s0.free nL
  have s1 := s0.trans (same_new (o := .lst (List.replicate (a.length + b.length - 1) (V.int 0))) nL)
  have eL : upd (upd H0 L0 (.lst [.int 0])) L (.lst (List.replicate (a.length + b.length - 1) (V.int 0))) L = some (.lst ((List.replicate (a.length + b.length - 1) (0 : Int)).map V.int)) := by
    rw [upd_same, List.map_replicate]
  generalize upd (upd H0 L0 (.lst [.int 0])) L _ = H1 at s1 eL ⊢
  refine ⟨.ref pb, rfl, pb, b.map V.int, rfl, SqT.of (s1 _ _ eb), for_enumT (xs := b.map V.int) (fun i σ H' => ∃ (x4 x5 x6 x7 : Option V) (l : List Int), σ = [some (.ref pa), some (.ref pb), none, some (.ref L), x4, x5, x6, x7] ∧ Same H0 H' ∧ H' L = some (.lst (l.map V.int)) ∧ l.length = a.length + b.length - 1 ∧ ∀ k, g l k = S i (fun j => if j ≤ k then g b j * g a (k - j) else 0)) ?_ ?_ ?_ ?_⟩
  · exact ⟨none, none, none, none, _, rfl, s1, eL, by simp, fun k => by
      unfold g
      rw [List.getD_eq_getElem?_getD, List.getElem?_replicate]
      split <;> rfl⟩
  · rintro i σ H' hi ⟨x4, x5, x6, x7, l, rfl, s', _⟩
    exact SqT.of (s' _ _ eb)
  · rintro i x p σ H' hx ⟨x4, x5, x6, x7, l, rfl, s', el, ll, cl⟩ np
    rw [List.getElem?_map] at hx
    cases hb : b[i]? with
    | none => rw [hb] at hx; cases hx
    | some c =>
    rw [hb] at hx
    cases hx
    have ib := (List.getElem?_eq_some_iff.mp hb).1
    have gb : g b i = c := by rw [g_some ib]; exact (List.getElem?_eq_some_iff.mp hb).2
    have cb : c.natAbs ≤ bb := by rw [← gb]; exact sb_get bb' i
    have s2 := s'.trans (same_new (o := .tup [.int (i : Nat), .int c]) np)
    have el2 : upd H' p (.tup [.int (i : Nat), .int c]) L = some (.lst (l.map V.int)) := by rw [upd_ne (ne_of_none el np)]; exact el
    refine ⟨p, _, rfl, SqT.of upd_same, rfl, _, _, rfl, _, _, rfl, rfl, ?_⟩
    generalize upd H' p (.tup [.int (i : Nat), .int c]) = H2 at s2 el2 ⊢
    refine ⟨.int c, rfl, _, rfl, ?_⟩
    by_cases c0 : c = 0
    · subst c0
      refine iteF ⟨some (.int (i : Nat)), some (.int 0), x6, x7, l, rfl, s2, el2, ll, fun k => ?_⟩
      rw [cl k, S, gb]
      split <;> omega
    rw [show (c != 0) = true from bne_iff_ne.mpr c0]
    refine iteT ⟨.ref pa, rfl, pa, a.map V.int, rfl, SqT.of (s2 _ _ ea), for_enumT (xs := a.map V.int) (fun m σ H' => ∃ (x6 x7 : Option V) (l : List Int), σ = [some (.ref pa), some (.ref pb), none, some (.ref L), some (.int (i : Nat)), some (.int c), x6, x7] ∧ Same H0 H' ∧ H' L = some (.lst (l.map V.int)) ∧ l.length = a.length + b.length - 1 ∧ ∀ k, g l k = S i (fun j => if j ≤ k then g b j * g a (k - j) else 0) + (if i ≤ k ∧ k - i < m then g b i * g a (k - i) else 0)) ?_ ?_ ?_ ?_⟩
    · exact ⟨x6, x7, l, rfl, s2, el2, ll, fun k => by rw [cl k, if_neg (by omega), Int.add_zero]⟩
    · rintro m σ H' hm ⟨x6, x7, l, rfl, s', _⟩
      exact SqT.of (s' _ _ ea)
    · rintro m x p σ H' hx ⟨x6, x7, l, rfl, s', el, ll, cl⟩ np
      rw [List.getElem?_map] at hx
      cases ha : a[m]? with
      | none => rw [ha] at hx; cases hx
      | some d =>
      rw [ha] at hx
      cases hx
      have im := (List.getElem?_eq_some_iff.mp ha).1
      have ga : g a m = d := by rw [g_some im]; exact (List.getElem?_eq_some_iff.mp ha).2
      have il : m + i < l.length := by omega
      have s2 := s'.trans (same_new (o := .tup [.int (m : Nat), .int d]) np)
      have el2 : upd H' p (.tup [.int (m : Nat), .int d]) L = some (.lst (l.map V.int)) := by rw [upd_ne (ne_of_none el np)]; exact el
      refine ⟨p, _, rfl, SqT.of upd_same, rfl, _, _, rfl, _, _, rfl, rfl, ?_⟩
      generalize upd H' p (.tup [.int (m : Nat), .int d]) = H2 at s2 el2 ⊢
      have im2 : (m : Int) + (i : Int) = ((m + i : Nat) : Int) := by omega
      refine ⟨.ref L, rfl, .int (m : Nat), rfl, .int (i : Nat), rfl, _, _, rfl, rfl, ?_⟩
      walk_at "rd"
      rw [im2]
      refine ⟨L, _, m + i, .int l[m + i], rfl, rfl, SqL.of el2, by rw [List.getElem?_map, List.getElem?_eq_getElem il]; rfl, .int d, rfl, .int c, rfl, _, _, rfl, rfl, .inr ⟨by omega, by omega⟩, _, _, rfl, rfl, L, _, _, m + i, rfl, rfl, el2, Evl.ixN_nat (by rw [List.length_map]; exact il), ?_⟩
      refine ⟨some (.int (m : Nat)), some (.int d), l.set (m + i) (l[m + i] + d * c), rfl, same_upd s2 nL', by rw [upd_same, map_set'], by rw [List.length_set]; exact ll, fun k => ?_⟩
      rw [g_set il, cl k]
      by_cases e : k = m + i
      · subst e
        rw [if_pos rfl, if_pos (by omega), ← g_some il, cl (m + i), if_neg (by omega), show m + i - i = m from by omega, gb, ga, Int.add_zero, Int.mul_comm d c]
      · rw [if_neg e]
        congr 1
        by_cases e2 : i ≤ k ∧ k - i < m
        · rw [if_pos e2, if_pos (by omega)]
        · rw [if_neg e2, if_neg (by omega)]
    · rintro σ H' ⟨x6, x7, l, rfl, s', el, ll, cl⟩
      refine ⟨_, _, x6, x7, l, rfl, s', el, ll, fun k => ?_⟩
      rw [cl k, S, List.length_map]
      congr 1
      by_cases e : i ≤ k
      · rw [if_pos e]
        by_cases e2 : k - i < a.length
        · rw [if_pos ⟨e, e2⟩]
        · rw [if_neg (by omega), g_none (show a.length ≤ k - i by omega), Int.mul_zero]
      · rw [if_neg e, if_neg (by omega)]
  · rintro σ H' ⟨x4, x5, x6, x7, l, rfl, s', el, ll, cl⟩
    have cl' : ∀ k, g l k = cv (g b) (g a) k := fun k => by
      rw [cl k, List.length_map]
      exact cv_loop (fun i hi => g_none hi) k
    refine ⟨.ref L, rfl, L, _, rfl, .inl ⟨SqL.of el, fun p np => ?_⟩⟩
    exact q _ l _ (s'.trans (same_new np)) ⟨p, rfl, upd_same⟩ (okR_prod oka okb na nb' ll cl') (by omega) fun k => (cl' k).trans (cs k)
end
end K22

set_option Elab.async false
set_option linter.all false
set_option maxRecDepth 100000
set_option maxHeartbeats 4000000
local macro_rules | `(tactic| walk_at "rd") => `(tactic| dsimp only [Evl.tCut, L2.tSeq, L2.tNext, L2.tRet, L2.tRetN, L2.tAsg, L2.gName, L2.tIfS, L2.tDrop, L2.tCons, L2.tNil, L2.tC, L2.tVar, L2.tCB, L2.tAndV, L2.tOrV, L2.tNotV, L2.tB, L2.tTest, L2.tOp, L2.tUn, L2.tNot, L2.tAnd, L2.tOr, L2.tIf, L2.tCall, L2.tTup, L2.tLst, L2.tNotT, L2.tYes, L2.gTup, L2.gCons, L2.gNil, L2.gSub, L2.tBM0, L2.tBM, L2.tWhile, L2.tFor, L2.iRng1, L2.tAugS, Tw.iEnumT, L2.tCKw, L2.tAug, L2.ipI, RT.iRevA, L2.tPar, L2.tPar3, L2.tSl, L2.tNoPart, L2.tPart, Tw.tRevT])
namespace K22
open PySem PySem.Spec PyProof.Rows L2 Tw
def spAddP : Sp := fun vs H Q _ => ∃ u v p q b, vs = [u, v] ∧ Po H u p ∧ Po H v q ∧ (∀ r ∈ p, okR r) ∧ (∀ r ∈ q, okR r) ∧ Bd 8 b p ∧ Bd 8 b q ∧ ∀ z t H', Same H H' → Po H' z t → okP t → (∀ i j, co t i j = co p i j + co q i j) → Q z H'
theorem co_rw (p : List (List Int)) (i j : Nat) : co p i j = g (rw' p i) j := rfl
theorem len_rw {n : Nat} {p : List (List Int)} (h : ∀ r ∈ p, r.length ≤ n) (i : Nat) : (rw' p i).length ≤ n := by
  rcases Nat.lt_or_ge i p.length with c | c
  · rw [rw_some c]; exact h _ (List.getElem_mem _)
  · rw [rw_none c]; simp
section
variable {P : Program} {w : World} {K : PySem.W.Frag} {mg : Str → Option Value} {base : Heap}
theorem scPPlus : FnScope ["poly", "other", "found", "k", "row"] ["poly", "other"] (defScope sPPlus) := ⟨rfl, rfl, rfl, by decide +kernel, rfl, by decide +kernel, by decide +kernel⟩
theorem ok_pplus (D : Def K mg "poly_plus" sPPlus ["poly", "other"]) (nb : Nb mg) (ne : mg "enumerate" = none) (c1 : Cal P w K mg base "row_sum" 2 ["row", "other"] spAddR) (c2 : Cal P w K mg base "poly_trimmed" 1 ["rows"] spTP) : Cal P w K mg base "poly_plus" 3 ["poly", "other"] spAddP := by
  refine D.ok scPPlus (fun vs H Q E h => ?_) (fun f cdv A out s H vs Q E hr h => ?_)
  · obtain ⟨u, v, r, s, b, rfl, _⟩ := h; rfl
  obtain ⟨u, v, r, t, bd, rfl, hu, hv, okr, okt, br, bt, q⟩ := h
  refine ⟨_, Evl.pss_cut (ps_if (pt_cmpR op_lt (pe_callB (id := "len") (r := rLn K) call_len_seq (by rfl) nb.len PySem.boot_len (pa_cons (pv 0) pa_nil)) (pe_callB (id := "len") (r := rLn K) call_len_seq (by rfl) nb.len PySem.boot_len (pa_cons (pv 1) pa_nil)) (nomark _))
        (pss_one (ps_par (i := 0) (j := 1) rfl scPPlus.nd rfl rfl (by decide) rfl rfl (pa_cons (pv 1) (pa_cons (pv 0) pa_nil)) rfl)) pss_nil)
    (pss_cons (ps_set (i := 2) scPPlus.nd rfl (Or.inl rfl) (pe_callTy (T := "list") call_list_of (by rfl) nb.lst (by decide +kernel) (pa_cons (pv 0) pa_nil)))
    (pss_cons (ps_for PassesOwn.never rfl (pi_enumT (by rfl) ne (pv 1)) (pg_tup rfl (pgs_cons (pg_name (i := 3) scPPlus.nd rfl (Or.inl rfl)) (pgs_cons (pg_name (i := 4) scPPlus.nd rfl (Or.inl rfl)) pgs_nil)))
        (pss_one (ps_asg (pe_cal c1 hr (by decide) (by rfl) (pa_cons (pe_ix ix_list (pv 2) (pv 3) (fun _ _ => rfl)) (pa_cons (pv 4) pa_nil))) (pg_sub (pv 2) (pv 3) set_list))))
    (pss_one (ps_ret (pe_cal c2 hr (by decide) (by rfl) (pa_cons (pv 2) pa_nil)))))), ?_⟩
  walk_at "rd"
  obtain ⟨pu, xs, rfl, eu, hx⟩ := hu
  obtain ⟨pw, ys, rfl, ev, hy⟩ := hv
  have lx := hx.1
  have ly := hy.1
  refine ⟨fun σ H' => ∃ (pa pb : Addr) (as bs : List V) (a b : List (List Int)), σ = [some (.ref pa), some (.ref pb), none, none, none] ∧ H' = H ∧ H pa = some (.tup as) ∧ H pb = some (.tup bs) ∧ RoA H as a ∧ RoA H bs b ∧ b.length ≤ a.length ∧ Bd 8 bd a ∧ Bd 8 bd b ∧ (∀ r ∈ a, okR r) ∧ (∀ r ∈ b, okR r) ∧ ∀ i j, co a i j + co b i j = co r i j + co t i j, ?_, ?_⟩
  · refine ⟨.ref pu, rfl, pu, _, rfl, .inr (SqT.of eu), .ref pw, rfl, pw, _, rfl, .inr (SqT.of ev), _, _, rfl, rfl, _, rfl, ite2 (fun c => ?_) (fun c => ?_)⟩
    · have c := of_decide_eq_true c
      exact ⟨.ref pw, rfl, .ref pu, rfl, _, _, rfl, pw, pu, ys, xs, t, r, rfl, rfl, ev, eu, hy, hx, by omega, bt, br, okt, okr, fun i j => by omega⟩
    · have c : ¬ ((xs.length : Int) < (ys.length : Int)) := fun z => c (decide_eq_true z)
      exact ⟨pu, pw, xs, ys, r, t, rfl, rfl, eu, ev, hx, hy, by omega, br, bt, okr, okt, fun i j => rfl⟩
  clear eu ev hx hy lx ly
  rintro σ H0 ⟨pa, pb, as, bs, a, b, rfl, rfl, ea, eb, ra, rb, lb, ba, bb, oka, okb, cs⟩
  have lra := ra.1
  have lrb := rb.1
  refine ⟨.ref pa, rfl, pa, _, rfl, .inr (SqT.of ea), fun L nL => ?_⟩
  have s1 := same_new (o := .lst as) nL
  have eL : upd H0 L (.lst as) L = some (.lst as) := upd_same
  generalize upd H0 L (.lst as) = H1 at s1 eL ⊢
  refine ⟨.ref pb, rfl, pb, bs, rfl, SqT.of (s1 _ _ eb), for_enumT (xs := bs) (fun i σ H' => ∃ (x3 x4 : Option V) (ls : List V) (l : List (List Int)), σ = [some (.ref pa), some (.ref pb), some (.ref L), x3, x4] ∧ Same H0 H' ∧ H' L = some (.lst ls) ∧ RoA H' ls l ∧ l.length = a.length ∧ (∀ r ∈ l, okR r ∧ r.length ≤ 8 ) ∧ ∀ k j, co l k j = co a k j + (if k < i then co b k j else 0)) ?_ ?_ ?_ ?_⟩
  · exact ⟨none, none, as, a, rfl, s1, eL, ra.kt (Kt.of s1), rfl, fun r hr => ⟨oka r hr, (ba.2 r hr).1⟩, fun k j => by rw [if_neg (by omega), Int.add_zero]⟩
  · rintro i σ H' hi ⟨x3, x4, ls, l, rfl, s', _⟩
    exact SqT.of (s' _ _ eb)
  · rintro i x p σ H' hx ⟨x3, x4, ls, l, rfl, s', el, rl, ll, bl, cl⟩ np
    obtain ⟨c, hb, rc⟩ := (rb.kt (Kt.of s')).2 i x hx
    have ib := (List.getElem?_eq_some_iff.mp hb).1
    have gb : rw' b i = c := by rw [rw_some ib]; exact (List.getElem?_eq_some_iff.mp hb).2
    have il : i < l.length := by omega
    have sp := same_new (o := .tup [.int (i : Nat), x]) np
    have s2 := s'.trans sp
    have el2 := sp _ _ el
    have rl2 := rl.kt (Kt.of sp)
    have rc2 := rc.kt (Kt.of sp)
    refine ⟨p, _, rfl, SqT.of upd_same, rfl, _, _, rfl, _, _, rfl, rfl, ?_⟩
    generalize upd H' p (.tup [.int (i : Nat), x]) = H2 at s2 el2 rl2 rc2 ⊢
    obtain ⟨y, gy, ry⟩ := rl2.get il
    have lc : c.length ≤ 8 := by rw [← gb]; exact len_rw (fun r hr => (bb.2 r hr).1) i
    refine ⟨.ref L, rfl, .int (i : Nat), rfl, L, _, _, y, rfl, rfl, SqL.of el2, atI_nat gy, x, rfl, y, x, l[i], c, rfl, ry, rc2, by have := (bl _ (List.getElem_mem il)).2; omega, by omega, fun z d H3 s3 rz okd cd => ?_⟩
    have el3 := s3 _ _ el2
    have ld : d.length ≤ 8 := by
      rcases Nat.lt_or_ge 8 d.length with c8 | c8
      · exfalso
        have nd : d ≠ [] := fun z => by rw [z] at c8; simp at c8
        have := okR_last okd nd
        rw [cd, g_none (by have := (bl _ (List.getElem_mem il)).2; omega), g_none (by omega)] at this
        exact this rfl
      · exact c8
    refine ⟨.ref L, rfl, .int (i : Nat), rfl, L, _, _, i, rfl, rfl, el3, Evl.ixN_nat (by rw [rl2.1]; exact il), ?_⟩
    refine ⟨some (.int (i : Nat)), some x, ls.set i z, l.set i d, rfl, same_upd (s2.trans s3) nL, upd_same, ((rl2.kt (Kt.of s3)).set i rz).kt (kt_upd el3), by rw [List.length_set]; exact ll, fun r hr => ?_, fun k j => ?_⟩
    · rcases List.mem_or_eq_of_mem_set hr with hr | hr
      · exact bl r hr
      · rw [hr]; exact ⟨okd, ld⟩
    · have ck := cl k j
      rw [co_rw] at ck ⊢
      rw [rw_set il]
      by_cases e : k = i
      · subst e
        rw [if_pos rfl, cd, if_pos (by omega), ← rw_some il, ck, if_neg (by omega), co_rw b, gb, Int.add_zero]
      · rw [if_neg e, ck]
        congr 1
        by_cases e2 : k < i
        · rw [if_pos e2, if_pos (by omega)]
        · rw [if_neg e2, if_neg (by omega)]
  · rintro σ H' ⟨x3, x4, ls, l, rfl, s', el, rl, ll, bl, cl⟩
    refine ⟨.ref L, rfl, L, ls, l, rfl, el, rl, fun z H2 s2 r2 => q z _ H2 (s'.trans s2) r2 (okP_trim fun r hr => (bl r hr).1) fun k j => ?_⟩
    rw [co_rw, rw_trim, ← co_rw, cl k j, ← cs k j]
    congr 1
    by_cases e : k < bs.length
    · rw [if_pos e]
    · rw [if_neg e, co_rw, rw_none (show b.length ≤ k by omega)]
      rfl
end
end K22

set_option Elab.async false
set_option linter.all false
set_option maxRecDepth 100000
set_option maxHeartbeats 4000000
local macro_rules | `(tactic| walk_at "rd") => `(tactic| dsimp only [Evl.tCut, L2.tSeq, L2.tNext, L2.tRet, L2.tRetN, L2.tAsg, L2.gName, L2.tIfS, L2.tDrop, L2.tCons, L2.tNil, L2.tC, L2.tVar, L2.tCB, L2.tAndV, L2.tOrV, L2.tNotV, L2.tB, L2.tTest, L2.tOp, L2.tUn, L2.tNot, L2.tAnd, L2.tOr, L2.tIf, L2.tCall, L2.tTup, L2.tLst, L2.tNotT, L2.tYes, L2.gTup, L2.gCons, L2.gNil, L2.gSub, L2.tBM0, L2.tBM, L2.tWhile, L2.tFor, L2.iRng1, L2.tAugS, Tw.iEnumT, L2.tCKw, L2.tAug, L2.ipI, RT.iRevA, L2.tPar, L2.tPar3, L2.tSl, L2.tNoPart, L2.tPart, Tw.tRevT])
namespace K22
open PySem PySem.Spec PyProof.Rows L2 Tw
def spMulP : Sp := fun vs H Q _ => ∃ u v p q b, vs = [u, v] ∧ Po H u p ∧ Po H v q ∧ okP p ∧ okP q ∧ Bd 4 b p ∧ Bd 4 b q ∧ b < 2 ^ 64 ∧ ∀ z t H', Same H H' → Po H' z t → okP t → (∀ i j, co t i j = cv2 p q i j) → Q z H'
theorem cv2_comm (p q : List (List Int)) (i j : Nat) : cv2 p q i j = cv2 q p i j := by
  unfold cv2
  rw [S_rev]
  refine S_ext _ fun a ha => ?_
  rw [Nat.sub_sub_self (by omega), cv_comm]
theorem co_none {p : List (List Int)} {i : Nat} (h : p.length ≤ i) (j : Nat) : co p i j = 0 := by
  rw [co_rw, rw_none h]
  rfl
theorem cv2_top {p q : List (List Int)} (hp : p ≠ []) (hq : q ≠ []) (j : Nat) : cv2 p q (p.length - 1 + (q.length - 1)) j = cv (co p (p.length - 1)) (co q (q.length - 1)) j := by
  have lp : 0 < p.length := List.length_pos_iff.mpr hp
  have lq : 0 < q.length := List.length_pos_iff.mpr hq
  unfold cv2
  have e : S (p.length - 1 + (q.length - 1) + 1) (fun a => cv (co p a) (co q (p.length - 1 + (q.length - 1) - a)) j) = S (p.length - 1 + 1) (fun a => cv (co p a) (co q (p.length - 1 + (q.length - 1) - a)) j) := S_more (by omega) fun i hi => cv_zero (fun k => co_none (by omega) k) j
  rw [e, S, S_ext (h := fun _ => 0) _ fun i hi => by rw [cv_comm]; exact cv_zero (fun k => co_none (by omega) k) j, S_zero, Int.zero_add]
  congr 2
  omega
theorem lead_row {p : List (List Int)} (h : okP p) (n : p ≠ []) : okR (rw' p (p.length - 1)) ∧ rw' p (p.length - 1) ≠ [] := by
  have l : 0 < p.length := List.length_pos_iff.mpr n
  have e : p.getLast? = some p[p.length - 1] := by rw [List.getLast?_eq_getElem?, List.getElem?_eq_getElem (by omega)]
  refine ⟨okR_rw h.1 _, ?_⟩
  rw [rw_some (by omega)]
  exact h.2 _ e
theorem okP_prod {a b l : List (List Int)} (ha : okP a) (hb : okP b) (na : a ≠ []) (nb : b ≠ []) (ll : l.length = a.length + b.length - 1) (ok : ∀ r ∈ l, okR r) (cl : ∀ i j, co l i j = cv2 b a i j) : okP l := by
  have la : 0 < a.length := List.length_pos_iff.mpr na
  have lb : 0 < b.length := List.length_pos_iff.mpr nb
  refine ⟨ok, fun r hr e => ?_⟩
  subst e
  rw [List.getLast?_eq_getElem?] at hr
  have e1 : rw' l (l.length - 1) = [] := by
    unfold rw'
    rw [List.getD_eq_getElem?_getD, hr]
    rfl
  obtain ⟨oka, nea⟩ := lead_row ha na
  obtain ⟨okb, neb⟩ := lead_row hb nb
  have la2 : 0 < (rw' a (a.length - 1)).length := List.length_pos_iff.mpr nea
  have lb2 : 0 < (rw' b (b.length - 1)).length := List.length_pos_iff.mpr neb
  have e2 : co l (l.length - 1) ((rw' b (b.length - 1)).length - 1 + ((rw' a (a.length - 1)).length - 1)) = 0 := by rw [co_rw, e1]; rfl
  rw [cl, show l.length - 1 = b.length - 1 + (a.length - 1) from by omega, cv2_top nb na] at e2
  have e3 := cv_top (f := co b (b.length - 1)) (h := co a (a.length - 1)) (n := (rw' b (b.length - 1)).length - 1) (m := (rw' a (a.length - 1)).length - 1) (fun i hi => g_none (by omega)) (fun i hi => g_none (by omega))
  rw [e3] at e2
  exact Int.mul_ne_zero (okR_last okb neb) (okR_last oka nea) e2
theorem len_le {d : List Int} {n : Nat} (ok : okR d) (h : ∀ k, n ≤ k → g d k = 0) : d.length ≤ n := by
  rcases Nat.lt_or_ge n d.length with c | c
  · exfalso
    have nd : d ≠ [] := fun z => by rw [z] at c; simp at c
    exact okR_last ok nd (h _ (by omega))
  · exact c
section
variable {P : Program} {w : World} {K : PySem.W.Frag} {mg : Str → Option Value} {base : Heap}
theorem scPPTimes : FnScope ["poly", "other", "found", "k", "row", "at", "factor"] ["poly", "other"] (defScope sPPTimes) := ⟨rfl, rfl, rfl, by decide +kernel, rfl, by decide +kernel, by decide +kernel⟩
theorem ok_pptimes (D : Def K mg "poly_times" sPPTimes ["poly", "other"]) (nb : Nb mg) (ne : mg "enumerate" = none) (c1 : Cal P w K mg base "row_sum" 2 ["row", "other"] spAddR) (c2 : Cal P w K mg base "row_times" 1 ["row", "other"] spMulR) : Cal P w K mg base "poly_times" 3 ["poly", "other"] spMulP := by
  refine D.ok scPPTimes (fun vs H Q E h => ?_) (fun f cdv A out s H vs Q E hr h => ?_)
  · obtain ⟨u, v, r, s, b, rfl, _⟩ := h; rfl
  obtain ⟨u, v, a, b, bd, rfl, hu, hv, oka, okb, ba, bb, b64, q⟩ := h
  refine ⟨_, pss_cons (ps_if (PW.pt (pw_or (pt_not (pt_truth (pv 0) (fun _ => rfl))) (pw_or1 (pt_not (pt_truth (pv 1) (fun _ => rfl)))))) (pss_one (ps_ret (pe_tup pa_nil))) pss_nil)
    (pss_cons (ps_set (i := 2) scPPTimes.nd rfl (Or.inl rfl) (pe_op op_rep (pe_lst (pa_cons (pe_tup pa_nil) pa_nil)) (pe_op op_sub (pe_op op_add (pe_callB (id := "len") (r := rLn K) call_len_seq (by rfl) nb.len PySem.boot_len (pa_cons (pv 0) pa_nil)) (pe_callB (id := "len") (r := rLn K) call_len_seq (by rfl) nb.len PySem.boot_len (pa_cons (pv 1) pa_nil))) pe_int)))
    (pss_cons (ps_for PassesOwn.never rfl (pi_enumT (by rfl) ne (pv 1)) (pg_tup rfl (pgs_cons (pg_name (i := 3) scPPTimes.nd rfl (Or.inl rfl)) (pgs_cons (pg_name (i := 4) scPPTimes.nd rfl (Or.inl rfl)) pgs_nil)))
        (pss_one (ps_if (pt_truth (pv 4) (fun _ => rfl))
          (pss_one (ps_for PassesOwn.never rfl (pi_enumT (by rfl) ne (pv 0)) (pg_tup rfl (pgs_cons (pg_name (i := 5) scPPTimes.nd rfl (Or.inl rfl)) (pgs_cons (pg_name (i := 6) scPPTimes.nd rfl (Or.inl rfl)) pgs_nil)))
            (pss_one (ps_asg (pe_cal c1 hr (by decide) (by rfl) (pa_cons (pe_ix ix_list (pv 2) (pe_op op_add (pv 5) (pv 3)) (fun _ _ => rfl)) (pa_cons (pe_cal c2 hr (by decide) (by rfl) (pa_cons (pv 4) (pa_cons (pv 6) pa_nil))) pa_nil)))
              (pg_sub (pv 2) (pe_op op_add (pv 5) (pv 3)) set_list))))) pss_nil)))
    (pss_one (ps_ret (pe_callTy (T := "tuple") call_tuple_of (by rfl) nb.tup (by decide +kernel) (pa_cons (pv 2) pa_nil)))))), ?_⟩
  walk_at "rd"
  obtain ⟨pa, as, rfl, ea, ra⟩ := hu
  obtain ⟨pb, bs, rfl, eb, rb⟩ := hv
  have lra := ra.1
  have lrb := rb.1
  have la4 := ba.1
  have lb4 := bb.1
  have emp : ∀ {xs : List V} {p : List (List Int)}, xs.length = p.length → xs.isEmpty = p.isEmpty := by
    intro xs p h
    cases xs with
    | nil => cases p with
      | nil => rfl
      | cons _ _ => simp at h
    | cons _ _ => cases p with
      | nil => simp at h
      | cons _ _ => rfl
  have ret0 : (∀ i j, cv2 a b i j = 0) → ([] : List V).length ≤ sizeLine ∧ ∀ p, H p = none → Q (.ref p) (upd H p (.tup [])) := fun hz =>
    ⟨sz (by simp), fun p np => q _ [] _ (same_new np) ⟨p, [], rfl, upd_same, RoA.nil _⟩ ⟨fun r hr => (by cases hr), fun r hr => (by simp at hr)⟩ fun i j => (hz i j).symm⟩
  have zero2 : ∀ {p q : List (List Int)}, p = [] → ∀ i j, cv2 p q i j = 0 := fun {p q} h i j => by
    subst h
    unfold cv2
    rw [S_ext (h := fun _ => 0) _ fun k _ => cv_zero (fun l => co_none (Nat.zero_le _) l) j, S_zero]
  refine ⟨.ref pa, rfl, _, .inr (.inl ⟨_, SqT.of ea, rfl⟩), ?_⟩
  rw [emp lra]
  cases er : a.isEmpty with
  | true =>
    have : a = [] := by simpa using er
    exact iteT (iteT (ret0 (zero2 this)))
  | false =>
  refine iteF ⟨.ref pb, rfl, _, .inr (.inl ⟨_, SqT.of eb, rfl⟩), ?_⟩
  rw [emp lrb]
  cases et : b.isEmpty with
  | true =>
    have : b = [] := by simpa using et
    exact iteT (ret0 fun i j => by rw [cv2_comm]; exact zero2 this i j)
  | false =>
  refine iteF ?_
  have na : a ≠ [] := fun z => by rw [z] at er; cases er
  have nb' : b ≠ [] := fun z => by rw [z] at et; cases et
  have la0 : 0 < a.length := List.length_pos_iff.mpr na
  have lb0 : 0 < b.length := List.length_pos_iff.mpr nb'
  refine ⟨sz (by simp), fun e0 ne0 => ?_⟩
  have s00 := same_new (o := .tup []) ne0
  have re0 : Ro (upd H e0 (.tup [])) (.ref e0) [] := ⟨e0, rfl, upd_same⟩
  generalize upd H e0 (.tup []) = H0 at s00 re0 ⊢
  refine ⟨sz (by simp), fun L0 nL0 => ?_⟩
  have s0 := s00.trans (same_new (o := .lst [.ref e0]) nL0)
  refine ⟨.ref pa, rfl, pa, _, rfl, .inr (SqT.of (s0 _ _ ea)), .ref pb, rfl, pb, _, rfl, .inr (SqT.of (s0 _ _ eb)), _, _, rfl, rfl, _, _, rfl, rfl, L0, _, _, rfl, rfl, upd_same, by omega, by omega, ?_, fun L nL => ?_⟩
  · have := sz (n := (as.length + bs.length)) (by omega)
    show 1 * _ ≤ _
    rw [Nat.one_mul]
    omega
  have el0 : (((as.length : Nat) : Int) + ((bs.length : Nat) : Int) - 1).toNat = a.length + b.length - 1 := by omega
  rw [el0, flat_one]
  have nL' : H L = none := s0.free nL
  have s1 := s0.trans (same_new (o := .lst (List.replicate (a.length + b.length - 1) (V.ref e0))) nL)
  have eL : upd (upd H0 L0 (.lst [.ref e0])) L (.lst (List.replicate (a.length + b.length - 1) (V.ref e0))) L = some (.lst (List.replicate (a.length + b.length - 1) (V.ref e0))) := upd_same
  have rL : RoA (upd (upd H0 L0 (.lst [.ref e0])) L (.lst (List.replicate (a.length + b.length - 1) (V.ref e0)))) (List.replicate (a.length + b.length - 1) (V.ref e0)) (List.replicate (a.length + b.length - 1) []) := by
    refine ⟨by simp, fun i v e => ?_⟩
    rw [List.getElem?_replicate] at e
    split at e
    · cases e
      refine ⟨[], by rw [List.getElem?_replicate, if_pos ‹_›], ?_⟩
      exact re0.kt ((Kt.of (same_new nL0)).trans (Kt.of (same_new nL)))
    · cases e
  generalize upd (upd H0 L0 (.lst [.ref e0])) L _ = H1 at s1 eL rL ⊢
  refine ⟨.ref pb, rfl, pb, bs, rfl, SqT.of (s1 _ _ eb), for_enumT (xs := bs) (fun i σ H' => ∃ (x3 x4 x5 x6 : Option V) (ls : List V) (l : List (List Int)), σ = [some (.ref pa), some (.ref pb), some (.ref L), x3, x4, x5, x6] ∧ Same H H' ∧ H' L = some (.lst ls) ∧ RoA H' ls l ∧ l.length = a.length + b.length - 1 ∧ (∀ r ∈ l, okR r ∧ r.length ≤ 8) ∧ ∀ k j, co l k j = S i (fun t => if t ≤ k then cv (co b t) (co a (k - t)) j else 0)) ?_ ?_ ?_ ?_⟩
  · refine ⟨none, none, none, none, _, _, rfl, s1, eL, rL, by simp, fun r hr => ?_, fun k j => ?_⟩
    · rw [(List.mem_replicate.mp hr).2]
      exact ⟨okR_nil, by simp⟩
    · unfold co rw'
      rw [List.getD_eq_getElem?_getD, List.getElem?_replicate]
      split <;> rfl
  · rintro i σ H' hi ⟨x3, x4, x5, x6, ls, l, rfl, s', _⟩
    exact SqT.of (s' _ _ eb)
  · rintro i x p σ H' hx ⟨x3, x4, x5, x6, ls, l, rfl, s', el, rl, ll, bl, cl⟩ np
    obtain ⟨c, hb, rc⟩ := (rb.kt (Kt.of s')).2 i x hx
    have ib := (List.getElem?_eq_some_iff.mp hb).1
    have gb : rw' b i = c := by rw [rw_some ib]; exact (List.getElem?_eq_some_iff.mp hb).2
    have mc := bb.2 c (List.mem_of_getElem? hb)
    have okc := okb.1 c (List.mem_of_getElem? hb)
    have sp := same_new (o := .tup [.int (i : Nat), x]) np
    have s2 := s'.trans sp
    have el2 := sp _ _ el
    have rl2 := rl.kt (Kt.of sp)
    have rc2 := rc.kt (Kt.of sp)
    refine ⟨p, _, rfl, SqT.of upd_same, rfl, _, _, rfl, _, _, rfl, rfl, ?_⟩
    generalize upd H' p (.tup [.int (i : Nat), x]) = H2 at s2 el2 rl2 rc2 ⊢
    obtain ⟨pc, rfl, ec⟩ := id rc2
    refine ⟨.ref pc, rfl, _, .inr (.inl ⟨_, SqT.of ec, rfl⟩), ?_⟩
    have ee : (c.map V.int).isEmpty = c.isEmpty := by cases c <;> rfl
    rw [ee]
    cases ce : c.isEmpty with
    | true =>
      have cn : c = [] := by simpa using ce
      refine iteF ⟨_, _, x5, x6, ls, l, rfl, s2, el2, rl2, ll, bl, fun k j => ?_⟩
      rw [cl k j, S]
      have z : cv (co b i) (co a (k - i)) j = 0 := cv_zero (fun t => by rw [co_rw, gb, cn]; rfl) j
      rw [z]
      split <;> omega
    | false =>
    refine iteT ⟨.ref pa, rfl, pa, as, rfl, SqT.of (s2 _ _ ea), for_enumT (xs := as) (fun m σ H' => ∃ (x5 x6 : Option V) (ls : List V) (l : List (List Int)), σ = [some (.ref pa), some (.ref pb), some (.ref L), some (.int (i : Nat)), some (.ref pc), x5, x6] ∧ Same H H' ∧ Kt H2 H' ∧ H' L = some (.lst ls) ∧ RoA H' ls l ∧ l.length = a.length + b.length - 1 ∧ (∀ r ∈ l, okR r ∧ r.length ≤ 8) ∧ ∀ k j, co l k j = S i (fun t => if t ≤ k then cv (co b t) (co a (k - t)) j else 0) + (if i ≤ k ∧ k - i < m then cv (co b i) (co a (k - i)) j else 0)) ?_ ?_ ?_ ?_⟩
    · exact ⟨x5, x6, ls, l, rfl, s2, Kt.of (Same.refl _), el2, rl2, ll, bl, fun k j => by rw [cl k j, if_neg (by omega), Int.add_zero]⟩
    · rintro m σ H' hm ⟨x5, x6, ls, l, rfl, s', _⟩
      exact SqT.of (s' _ _ ea)
    · rintro m x p σ H3 hx ⟨x5, x6, ls, l, rfl, s3, k3, el, rl, ll, bl, cl⟩ np
      obtain ⟨d, hd, rd⟩ := (ra.kt (Kt.of s3)).2 m x hx
      have im := (List.getElem?_eq_some_iff.mp hd).1
      have gd : rw' a m = d := by rw [rw_some im]; exact (List.getElem?_eq_some_iff.mp hd).2
      have md := ba.2 d (List.mem_of_getElem? hd)
      have okd := oka.1 d (List.mem_of_getElem? hd)
      have il : m + i < l.length := by omega
      have sp := same_new (o := .tup [.int (m : Nat), x]) np
      have s4 := s3.trans sp
      have k4 := k3.trans (Kt.of sp)
      have el4 := sp _ _ el
      have rl4 := rl.kt (Kt.of sp)
      have rd4 := rd.kt (Kt.of sp)
      refine ⟨p, _, rfl, SqT.of upd_same, rfl, _, _, rfl, _, _, rfl, rfl, ?_⟩
      generalize upd H3 p (.tup [.int (m : Nat), x]) = H4 at s4 k4 el4 rl4 rd4 ⊢
      obtain ⟨y, gy, ry⟩ := rl4.get il
      have my := bl _ (List.getElem_mem il)
      have im2 : (m : Int) + (i : Int) = ((m + i : Nat) : Int) := by omega
      refine ⟨.ref L, rfl, .int (m : Nat), rfl, .int (i : Nat), rfl, _, _, rfl, rfl, ?_⟩
      walk_at "rd"
      rw [im2]
      refine ⟨L, _, _, y, rfl, rfl, SqL.of el4, atI_nat gy, .ref pc, rfl, x, rfl, .ref pc, x, c, d, bd, rfl, rc2.kt k4, rd4, okc, okd, by omega, by omega, by omega, mc.2, md.2, b64, fun z t H5 s5 rz okz lz cz => ?_⟩
      refine ⟨y, z, l[m + i], t, rfl, ry.kt (Kt.of s5), rz, by omega, by omega, fun z2 t2 H6 s6 rz2 okz2 cz2 => ?_⟩
      have el6 := (s5.trans s6) _ _ el4
      refine ⟨.ref L, rfl, .int (m : Nat), rfl, .int (i : Nat), rfl, _, _, rfl, rfl, ?_⟩
      walk_at "rd"
      rw [im2]
      refine ⟨L, _, _, m + i, rfl, rfl, el6, Evl.ixN_nat (by rw [rl4.1]; exact il), ?_⟩
      refine ⟨some (.int (m : Nat)), some x, ls.set (m + i) z2, l.set (m + i) t2, rfl, same_upd (s4.trans (s5.trans s6)) nL', (k4.trans (Kt.of (s5.trans s6))).trans (kt_upd el6), upd_same, ((rl4.kt (Kt.of (s5.trans s6))).set (m + i) rz2).kt (kt_upd el6), by rw [List.length_set]; exact ll, fun r hr => ?_, fun k j => ?_⟩
      · rcases List.mem_or_eq_of_mem_set hr with hr | hr
        · exact bl r hr
        · rw [hr]
          exact ⟨okz2, len_le okz2 fun k hk => by rw [cz2, g_none (by omega), g_none (by omega)]; rfl⟩
      · have ck := cl k j
        rw [co_rw] at ck ⊢
        rw [rw_set il]
        by_cases e : k = m + i
        · subst e
          rw [if_pos rfl, cz2, cz, if_pos (by omega), ← rw_some il, ck, if_neg (by omega), Int.add_zero, show m + i - i = m from by omega, ← gb, ← gd]
          rfl
        · rw [if_neg e, ck]
          congr 1
          by_cases e2 : i ≤ k ∧ k - i < m
          · rw [if_pos e2, if_pos (by omega)]
          · rw [if_neg e2, if_neg (by omega)]
    · rintro σ H' ⟨x5, x6, ls, l, rfl, s', k', el, rl, ll, bl, cl⟩
      refine ⟨_, _, x5, x6, ls, l, rfl, s', el, rl, ll, bl, fun k j => ?_⟩
      rw [cl k j, S, lra]
      congr 1
      by_cases e : i ≤ k
      · rw [if_pos e]
        by_cases e2 : k - i < a.length
        · rw [if_pos ⟨e, e2⟩]
        · rw [if_neg (by omega), cv_comm, cv_zero (fun t => co_none (by omega) t)]
      · rw [if_neg e, if_neg (by omega)]
  · rintro σ H' ⟨x3, x4, x5, x6, ls, l, rfl, s', el, rl, ll, bl, cl⟩
    have cl' : ∀ k j, co l k j = cv2 b a k j := fun k j => by
      rw [cl k j, lrb]
      exact cv2_loop k j
    refine ⟨.ref L, rfl, L, _, rfl, .inl ⟨SqL.of el, fun p np => ?_⟩⟩
    exact q _ l _ (s'.trans (same_new np)) ⟨p, _, rfl, upd_same, rl.kt (Kt.of (same_new np))⟩ (okP_prod oka okb na nb' ll (fun r hr => (bl r hr).1) cl') fun k j => by rw [cl' k j, cv2_comm]
end
end K22

set_option Elab.async false
set_option linter.all false
set_option maxRecDepth 100000
set_option maxHeartbeats 4000000
local macro_rules | `(tactic| walk_at "rd") => `(tactic| dsimp only [Evl.tCut, L2.tSeq, L2.tNext, L2.tRet, L2.tRetN, L2.tAsg, L2.gName, L2.tIfS, L2.tDrop, L2.tCons, L2.tNil, L2.tC, L2.tVar, L2.tCB, L2.tAndV, L2.tOrV, L2.tNotV, L2.tB, L2.tTest, L2.tOp, L2.tUn, L2.tNot, L2.tAnd, L2.tOr, L2.tIf, L2.tCall, L2.tTup, L2.tLst, L2.tNotT, L2.tYes, L2.gTup, L2.gCons, L2.gNil, L2.gSub, L2.tBM0, L2.tBM, L2.tWhile, L2.tFor, L2.iRng1, L2.tAugS, Tw.iEnumT, L2.tCKw, L2.tAug, L2.ipI, RT.iRevA, L2.tPar, L2.tPar3, L2.tSl, L2.tNoPart, L2.tPart, Tw.tRevT])
namespace K22
open PySem PySem.Spec PyProof.Rows L2 Tw
def spChkTwo : Sp := fun vs H Q _ => ∃ a u v p q b, vs = [u, v] ∧ We a H ∧ Po H u p ∧ Po H v q ∧ okP p ∧ okP q ∧ Bd 8 b p ∧ Bd 8 b q ∧ ∀ x H', Same H H' → Q x H'
def spApSum : Sp := fun vs H Q _ => ∃ a u v p q b, vs = [u, v] ∧ We a H ∧ Po H u p ∧ Po H v q ∧ okP p ∧ okP q ∧ Bd 8 b p ∧ Bd 8 b q ∧ ∀ z t H', Same H H' → Po H' z t → okP t → (∀ i j, co t i j = co p i j + co q i j) → Q z H'
def spApProd : Sp := fun vs H Q _ => ∃ a u v p q b, vs = [u, v] ∧ We a H ∧ Po H u p ∧ Po H v q ∧ okP p ∧ okP q ∧ Bd 4 b p ∧ Bd 4 b q ∧ b < 2 ^ 64 ∧ ∀ z t H', Same H H' → Po H' z t → okP t → (∀ i j, co t i j = cv2 p q i j) → Q z H'
def spApExch : Sp := fun vs H Q _ => ∃ a u p b, vs = [u] ∧ We a H ∧ Po H u p ∧ okP p ∧ Bd 8 b p ∧ ∀ z H', Same H H' → Po H' z (exch p) → Q z H'
theorem bd48 {b : Nat} {p : List (List Int)} (h : Bd 4 b p) : Bd 8 b p := ⟨by have := h.1; omega, fun r hr => ⟨by have := (h.2 r hr).1; omega, (h.2 r hr).2⟩⟩
theorem getD_map_range {α : Type} (f : Nat → α) (d : α) (n k : Nat) (z : n ≤ k → f k = d) : ((List.range n).map f).getD k d = f k := by
  rw [List.getD_eq_getElem?_getD]
  rcases Nat.lt_or_ge k n with c | c
  · rw [List.getElem?_eq_getElem (by rw [List.length_map, List.length_range]; exact c), List.getElem_map, List.getElem_range]
    rfl
  · rw [List.getElem?_eq_none (by rw [List.length_map, List.length_range]; exact c), z c]
    rfl
/-- exchanged: the numbers change places -/
theorem co_exch (p : List (List Int)) (i j : Nat) : co (exch p) i j = co p j i := by
  have zcol : lng p ≤ i → col p i = [] := fun h => by
    have nil : ∀ l : List Int, (∀ c ∈ l, c = 0) → trimI l = [] := fun l => by
      intro hl
      have := trimBy_take (fun c : Int => c == 0) l 0 (Nat.zero_le _) (fun k c _ e => by rw [hl c (List.mem_of_getElem? e)]; rfl) (.inl rfl)
      rw [show trimI l = trimBy (fun c : Int => c == 0) l from rfl, this, List.take_zero]
    refine nil _ fun c hc => ?_
    obtain ⟨r, hr, rfl⟩ := List.mem_map.mp hc
    exact g_none (Nat.le_trans (lng_le hr) h)
  rw [co_rw, show rw' (exch p) i = rw' ((List.range (lng p)).map (col p)) i from rw_trim _ _]
  rw [show rw' ((List.range (lng p)).map (col p)) i = col p i from getD_map_range _ _ _ _ zcol]
  rw [show g (col p i) j = g (p.map fun r => r.getD i 0) j from g_trim _ _]
  rcases Nat.lt_or_ge j p.length with c | c
  · rw [g_some (by rw [List.length_map]; exact c), List.getElem_map, co_rw, rw_some c]
  · rw [g_none (by rw [List.length_map]; exact c), co_none c]
section
variable {P : Program} {w : World} {K : PySem.W.Frag} {mg : Str → Option Value} {base : Heap}
theorem scChkTwo : FnScope ["poly", "other"] ["poly", "other"] (defScope sChkTwo) := ⟨rfl, rfl, rfl, by decide +kernel, rfl, by decide +kernel, by decide +kernel⟩
theorem ok_chktwo (D : Def K mg "check_two_polys" sChkTwo ["poly", "other"]) (c1 : Cal P w K mg base "check_poly" 4 ["poly"] spChkP) : Cal P w K mg base "check_two_polys" 5 ["poly", "other"] spChkTwo := by
  refine D.ok scChkTwo (fun vs H Q E h => ?_) (fun f cdv A out s H vs Q E hr h => ?_)
  · obtain ⟨a, u, v, p, q, b, rfl, _⟩ := h; rfl
  obtain ⟨a, u, v, p, q, b, rfl, hw, hp, hq, op, oq, bp, bq, k⟩ := h
  refine ⟨_, pss_cons (ps_expr (pe_cal c1 hr (by decide) (by rfl) (pa_cons (pv 0) pa_nil))) (pss_one (ps_expr (pe_cal c1 hr (by decide) (by rfl) (pa_cons (pv 1) pa_nil)))), ?_⟩
  walk_at "rd"
  exact ⟨u, rfl, a, u, p, b, rfl, hw, hp, op, bp, fun x H1 s1 => ⟨v, rfl, a, v, q, b, rfl, hw.to s1, hq.kt (Kt.of s1), oq, bq, fun y H2 s2 => k _ H2 (s1.trans s2)⟩⟩
theorem scApSum : FnScope ["poly", "other"] ["poly", "other"] (defScope sApSum) := ⟨rfl, rfl, rfl, by decide +kernel, rfl, by decide +kernel, by decide +kernel⟩
theorem ok_apsum (D : Def K mg "poly_sum" sApSum ["poly", "other"]) (c1 : Cal P w K mg base "check_two_polys" 5 ["poly", "other"] spChkTwo) (c2 : Cal P w K mg base "poly_plus" 3 ["poly", "other"] spAddP) : Cal P w K mg base "poly_sum" 6 ["poly", "other"] spApSum := by
  refine D.ok scApSum (fun vs H Q E h => ?_) (fun f cdv A out s H vs Q E hr h => ?_)
  · obtain ⟨a, u, v, p, q, b, rfl, _⟩ := h; rfl
  obtain ⟨a, u, v, p, q, b, rfl, hw, hp, hq, op, oq, bp, bq, k⟩ := h
  refine ⟨_, pss_cons (ps_expr (pe_cal c1 hr (by decide) (by rfl) (pa_cons (pv 0) (pa_cons (pv 1) pa_nil)))) (pss_one (ps_ret (pe_cal c2 hr (by decide) (by rfl) (pa_cons (pv 0) (pa_cons (pv 1) pa_nil))))), ?_⟩
  walk_at "rd"
  exact ⟨u, rfl, v, rfl, a, u, v, p, q, b, rfl, hw, hp, hq, op, oq, bp, bq, fun x H1 s1 => ⟨u, rfl, v, rfl, u, v, p, q, b, rfl, hp.kt (Kt.of s1), hq.kt (Kt.of s1), op.1, oq.1, bp, bq, fun z t H2 s2 r2 o2 e2 => k z t H2 (s1.trans s2) r2 o2 e2⟩⟩
theorem scApProd : FnScope ["poly", "other"] ["poly", "other"] (defScope sApProd) := ⟨rfl, rfl, rfl, by decide +kernel, rfl, by decide +kernel, by decide +kernel⟩
theorem ok_approd (D : Def K mg "poly_product" sApProd ["poly", "other"]) (c1 : Cal P w K mg base "check_two_polys" 5 ["poly", "other"] spChkTwo) (c2 : Cal P w K mg base "poly_times" 3 ["poly", "other"] spMulP) : Cal P w K mg base "poly_product" 6 ["poly", "other"] spApProd := by
  refine D.ok scApProd (fun vs H Q E h => ?_) (fun f cdv A out s H vs Q E hr h => ?_)
  · obtain ⟨a, u, v, p, q, b, rfl, _⟩ := h; rfl
  obtain ⟨a, u, v, p, q, b, rfl, hw, hp, hq, op, oq, bp, bq, b64, k⟩ := h
  refine ⟨_, pss_cons (ps_expr (pe_cal c1 hr (by decide) (by rfl) (pa_cons (pv 0) (pa_cons (pv 1) pa_nil)))) (pss_one (ps_ret (pe_cal c2 hr (by decide) (by rfl) (pa_cons (pv 0) (pa_cons (pv 1) pa_nil))))), ?_⟩
  walk_at "rd"
  exact ⟨u, rfl, v, rfl, a, u, v, p, q, b, rfl, hw, hp, hq, op, oq, bd48 bp, bd48 bq, fun x H1 s1 => ⟨u, rfl, v, rfl, u, v, p, q, b, rfl, hp.kt (Kt.of s1), hq.kt (Kt.of s1), op, oq, bp, bq, b64, fun z t H2 s2 r2 o2 e2 => k z t H2 (s1.trans s2) r2 o2 e2⟩⟩
theorem scApExch : FnScope ["poly"] ["poly"] (defScope sApExch) := ⟨rfl, rfl, rfl, by decide +kernel, rfl, by decide +kernel, by decide +kernel⟩
theorem ok_apexch (D : Def K mg "exchanged" sApExch ["poly"]) (c1 : Cal P w K mg base "check_poly" 4 ["poly"] spChkP) (c2 : Cal P w K mg base "poly_exchanged" 2 ["poly"] spExch) : Cal P w K mg base "exchanged" 5 ["poly"] spApExch := by
  refine D.ok scApExch (fun vs H Q E h => ?_) (fun f cdv A out s H vs Q E hr h => ?_)
  · obtain ⟨a, u, p, b, rfl, _⟩ := h; rfl
  obtain ⟨a, u, p, b, rfl, hw, hp, op, bp, k⟩ := h
  refine ⟨_, pss_cons (ps_expr (pe_cal c1 hr (by decide) (by rfl) (pa_cons (pv 0) pa_nil))) (pss_one (ps_ret (pe_cal c2 hr (by decide) (by rfl) (pa_cons (pv 0) pa_nil)))), ?_⟩
  walk_at "rd"
  exact ⟨u, rfl, a, u, p, b, rfl, hw, hp, op, bp, fun x H1 s1 => ⟨u, rfl, u, p, b, rfl, hp.kt (Kt.of s1), bp, fun z H2 s2 r2 => k z H2 (s1.trans s2) r2⟩⟩
end
end K22

set_option Elab.async false
set_option linter.all false
set_option maxRecDepth 100000
set_option maxHeartbeats 4000000
local macro_rules | `(tactic| walk_at "rd") => `(tactic| dsimp only [Evl.tCut, L2.tSeq, L2.tNext, L2.tRet, L2.tRetN, L2.tAsg, L2.gName, L2.tIfS, L2.tDrop, L2.tCons, L2.tNil, L2.tC, L2.tVar, L2.tCB, L2.tAndV, L2.tOrV, L2.tNotV, L2.tB, L2.tTest, L2.tOp, L2.tUn, L2.tNot, L2.tAnd, L2.tOr, L2.tIf, L2.tCall, L2.tTup, L2.tLst, L2.tNotT, L2.tYes, L2.gTup, L2.gCons, L2.gNil, L2.gSub, L2.tBM0, L2.tBM, L2.tWhile, L2.tFor, L2.iRng1, L2.tAugS, Tw.iEnumT, L2.tCKw, L2.tAug, L2.ipI, RT.iRevA, L2.tPar, L2.tPar3, L2.tSl, L2.tNoPart, L2.tPart, Tw.tRevT])
namespace K22
open PySem PySem.Spec PyProof.Rows L2 Tw
def spScR : Sp := fun vs H Q _ => ∃ u r c, vs = [u, .int c] ∧ Ro H u r ∧ okR r ∧ r.length ≤ 100 ∧ c.natAbs < 2 ^ 64 ∧ ∀ z t H', Same H H' → Ro H' z t → okR t → (∀ k, g t k = c * g r k) → Q z H'
theorem g_map (c : Int) (r : List Int) (k : Nat) : g (r.map fun x => c * x) k = c * g r k := by
  rcases Nat.lt_or_ge k r.length with h | h
  · rw [g_some (by rw [List.length_map]; exact h), g_some h, List.getElem_map]
  · rw [g_none (by rw [List.length_map]; exact h), g_none h, Int.mul_zero]
theorem okR_scaled {r : List Int} {c : Int} (h : okR r) (n : c ≠ 0) : okR (r.map fun x => c * x) := fun d hd => by
  rw [List.getLast?_map] at hd
  cases e : r.getLast? with
  | none => rw [e] at hd; cases hd
  | some x =>
    rw [e] at hd
    cases hd
    exact Int.mul_ne_zero n (h x e)
section
variable {P : Program} {w : World} {K : PySem.W.Frag} {mg : Str → Option Value} {base : Heap}
theorem scPRScaled : FnScope ["row", "whole", "number"] ["row", "whole"] (defScope sPRScaled) := ⟨rfl, rfl, rfl, by decide +kernel, rfl, by decide +kernel, by decide +kernel⟩
theorem ok_prscaled (D : Def K mg "row_scaled" sPRScaled ["row", "whole"]) (nb : Nb mg) : Cal P w K mg base "row_scaled" 1 ["row", "whole"] spScR := by
  refine D.ok scPRScaled (fun vs H Q E h => ?_) (fun f cdv A out s H vs Q E hr h => ?_)
  · obtain ⟨u, r, c, rfl, _⟩ := h; rfl
  obtain ⟨u, r, c, rfl, hu, okr, lr, c64, q⟩ := h
  refine ⟨_, pss_cons (ps_if (pt_cmpR op_eq (pv 1) pe_int (nomark _)) (pss_one (ps_ret (pe_tup pa_nil))) pss_nil)
    (pss_one (ps_ret (pe_callTy (T := "tuple") call_tuple_of (by rfl) nb.tup (by decide +kernel) (pa_cons
      (pe_lc (own := [("number", 2)]) (g := gName 2) (tt := tYes) rfl scPRScaled.nd (pi_tup (pv 0)) (blkOk_by (N := ["row", "whole", "number"]) (sc := defScope sPRScaled) (by decide +kernel))
        (fun _ _ _ _ _ => pg_name (i := 2) scPRScaled.nd rfl (Or.inl rfl)) (fun _ _ _ _ _ => pts_nil) (fun _ _ _ _ _ => pe_op op_mul (pv 1) (pv 2))) pa_nil)))), ?_⟩
  walk_at "rd"
  obtain ⟨pu, rfl, eu⟩ := hu
  refine ⟨.int c, rfl, rfl, _, rfl, ?_⟩
  rw [dec_int]
  by_cases z : c = 0
  · subst z
    exact iteT ⟨sz (by simp), fun p np => q _ [] _ (same_new np) ⟨p, rfl, upd_same⟩ okR_nil fun k => by rw [g_none (Nat.zero_le _), Int.zero_mul]⟩
  rw [show (c == 0) = false from beq_eq_false_iff_ne.mpr z]
  refine iteF (lc_relT (S := fun _ v k => v = V.int k) (R := fun _ v k => v = V.int k) (g := fun x => c * x) (rs := r) (p := pu) (xs := r.map V.int) (stable_eq _) (stable_eq _) rfl eu (RelA.of_map _) (by omega) (fun x => wipeJ _ _ _) (fun x d H1 hd s1 rx Z hZ => ?_) fun L ys H1 s1 nL eL ry => ?_)
  · subst rx
    exact ⟨.int c, rfl, .int d, rfl, _, _, rfl, rfl, .inl ⟨by omega, by omega⟩, hZ _ _ (Same.refl _) rfl⟩
  · have ey := RelA.eq_map ry
    refine ⟨L, _, rfl, .inl ⟨SqL.of eL, fun p np => ?_⟩⟩
    exact q _ _ _ (s1.trans (same_new np)) ⟨p, rfl, by rw [upd_same, ey]⟩ (okR_scaled okr z) fun k => g_map c r k
end
end K22

set_option Elab.async false
set_option linter.all false
set_option maxRecDepth 100000
set_option maxHeartbeats 4000000
local macro_rules | `(tactic| walk_at "rd") => `(tactic| dsimp only [Evl.tCut, L2.tSeq, L2.tNext, L2.tRet, L2.tRetN, L2.tAsg, L2.gName, L2.tIfS, L2.tDrop, L2.tCons, L2.tNil, L2.tC, L2.tVar, L2.tCB, L2.tAndV, L2.tOrV, L2.tNotV, L2.tB, L2.tTest, L2.tOp, L2.tUn, L2.tNot, L2.tAnd, L2.tOr, L2.tIf, L2.tCall, L2.tTup, L2.tLst, L2.tNotT, L2.tYes, L2.gTup, L2.gCons, L2.gNil, L2.gSub, L2.tBM0, L2.tBM, L2.tWhile, L2.tFor, L2.iRng1, L2.tAugS, Tw.iEnumT, L2.tCKw, L2.tAug, L2.ipI, RT.iRevA, L2.tPar, L2.tPar3, L2.tSl, L2.tNoPart, L2.tPart, Tw.tRevT])
namespace K22
open PySem PySem.Spec PyProof.Rows L2 Tw
def spLScaled : Sp := fun vs H Q _ => ∃ u r c b, vs = [u, .int c] ∧ Ro H u r ∧ r.length ≤ 100 ∧ c.natAbs < 2 ^ 64 ∧ SB b r ∧ ∀ z t H', Same H H' → Ro H' z t → okR t → t.length ≤ r.length → SB (c.natAbs * b) t → (∀ k, g t k = c * g r k) → Q z H'
def spDerP : Sp := fun vs H Q _ => ∃ u p b, vs = [u] ∧ Po H u p ∧ okP p ∧ Bd 8 b p ∧ ∀ z t H', Same H H' → Po H' z t → okP t → (∀ i j, co t i j = ((i + 1 : Nat) : Int) * co p (i + 1) j) → Q z H'
section
variable {P : Program} {w : World} {K : PySem.W.Frag} {mg : Str → Option Value} {base : Heap}
theorem scLScaled : FnScope ["_law_row_here", "_law_by", "_law_each"] ["_law_row_here", "_law_by"] (defScope sLScaled) := ⟨rfl, rfl, rfl, by decide +kernel, rfl, by decide +kernel, by decide +kernel⟩
theorem ok_lscaled (D : Def K mg "_law_scaled" sLScaled ["_law_row_here", "_law_by"]) (c1 : Cal P w K mg base "_law_trim" 1 ["_law_some"] spTrim) : Cal P w K mg base "_law_scaled" 2 ["_law_row_here", "_law_by"] spLScaled := by
  have c2 := c1.imp trim_int
  refine D.ok scLScaled (fun vs H Q E h => ?_) (fun f cdv A out s H vs Q E hr h => ?_)
  · obtain ⟨u, r, c, b, rfl, _⟩ := h; rfl
  obtain ⟨u, r, c, b, rfl, hu, lr, c64, br, q⟩ := h
  refine ⟨_, pss_one (ps_ret (pe_cal c2 hr (by decide) (by rfl) (pa_cons
      (pe_lc (own := [("_law_each", 2)]) (g := gName 2) (tt := tYes) rfl scLScaled.nd (pi_tup (pv 0)) (blkOk_by (N := ["_law_row_here", "_law_by", "_law_each"]) (sc := defScope sLScaled) (by decide +kernel))
        (fun _ _ _ _ _ => pg_name (i := 2) scLScaled.nd rfl (Or.inl rfl)) (fun _ _ _ _ _ => pts_nil) (fun _ _ _ _ _ => pe_op op_mul (pv 1) (pv 2))) pa_nil))), ?_⟩
  walk_at "rd"
  obtain ⟨pu, rfl, eu⟩ := hu
  refine lc_relT (S := fun _ v k => v = V.int k) (R := fun _ v k => v = V.int k) (g := fun x => c * x) (rs := r) (p := pu) (xs := r.map V.int) (stable_eq _) (stable_eq _) rfl eu (RelA.of_map _) (by omega) (fun x => wipeJ _ _ _) (fun x d H1 hd s1 rx Z hZ => ?_) fun L ys H1 s1 nL eL ry => ?_
  · subst rx
    exact ⟨.int c, rfl, .int d, rfl, _, _, rfl, rfl, .inl ⟨by omega, by omega⟩, hZ _ _ (Same.refl _) rfl⟩
  · have ey := RelA.eq_map ry
    refine ⟨L, _, rfl, by rw [eL, ey], fun z H2 s2 r2 => q z _ H2 (s1.trans s2) r2 (okR_trim _) ?_ (sb_trim fun d hd => ?_) fun k => by rw [g_trim]; exact g_map c r k⟩
    · refine Nat.le_trans (trimBy_len _ _) ?_
      rw [List.length_map]
      exact Nat.le_refl _
    · obtain ⟨x, hx, rfl⟩ := List.mem_map.mp hd
      rw [Int.natAbs_mul]
      exact Nat.mul_le_mul_left _ (br x hx)
theorem drop_rw (l : List (List Int)) (i : Nat) : rw' (l.drop 1) i = rw' l (i + 1) := by
  unfold rw'
  rw [List.getD_eq_getElem?_getD, List.getD_eq_getElem?_getD, List.getElem?_drop, Nat.add_comm]
theorem roa_drop {H : Hp} {xs : List V} {rs : List (List Int)} (h : RoA H xs rs) : RoA H (xs.drop 1) (rs.drop 1) := ⟨by rw [List.length_drop, List.length_drop, h.1], fun i v e => by
  rw [List.getElem?_drop] at e ⊢
  exact h.2 _ v e⟩
theorem scPDer : FnScope ["poly", "k", "row"] ["poly"] (defScope sPDer) := ⟨rfl, rfl, rfl, by decide +kernel, rfl, by decide +kernel, by decide +kernel⟩
theorem ok_pder (D : Def K mg "poly_derived" sPDer ["poly"]) (nb : Nb mg) (ne : mg "enumerate" = none) (c1 : Cal P w K mg base "row_scaled" 1 ["row", "whole"] spScR) : Cal P w K mg base "poly_derived" 2 ["poly"] spDerP := by
  refine D.ok scPDer (fun vs H Q E h => ?_) (fun f cdv A out s H vs Q E hr h => ?_)
  · obtain ⟨u, p, b, rfl, _⟩ := h; rfl
  obtain ⟨u, p, b, rfl, hu, okp, bp, q⟩ := h
  refine ⟨_, pss_one (ps_ret (pe_callTy (T := "tuple") call_tuple_of (by rfl) nb.tup (by decide +kernel) (pa_cons (pe_slice sl_list
      (pe_lc (own := [("k", 1), ("row", 2)]) (g := gTup K 2 (gCons (gName 1) (gCons (gName 2) gNil))) (tt := tYes) rfl scPDer.nd (pi_enumT (by rfl) ne (pv 0)) (blkOk_by (N := ["poly", "k", "row"]) (sc := defScope sPDer) (by decide +kernel))
        (fun _ _ _ _ _ => pg_tup rfl (pgs_cons (pg_name (i := 1) scPDer.nd rfl (Or.inl rfl)) (pgs_cons (pg_name (i := 2) scPDer.nd rfl (Or.inl rfl)) pgs_nil))) (fun _ _ _ _ _ => pts_nil) (fun _ _ _ _ _ => pe_cal c1 hr (by decide) (by rfl) (pa_cons (pv 2) (pa_cons (pv 1) pa_nil))))
      (po_some pe_int) po_none) pa_nil))), ?_⟩
  walk_at "rd"
  obtain ⟨pu, xs, rfl, eu, hx⟩ := hu
  have lx := hx.1
  have lp := bp.1
  refine ⟨.ref pu, rfl, pu, xs, rfl, SqT.of eu, fun L nL => lc_enumT (xs := xs) (fun m H' => Same H H' ∧ ∃ (ys : List V) (l : List (List Int)), H' L = some (.lst ys) ∧ RoA H' ys l ∧ l.length = m ∧ (∀ r ∈ l, okR r) ∧ ∀ i, i < m → ∀ j, co l i j = (i : Int) * co p i j) ?_ ?_ ?_ ?_⟩
  · exact ⟨same_new nL, [], [], upd_same, RoA.nil _, rfl, fun r hr => (by cases hr), fun i hi => (by omega)⟩
  · rintro i H' hi ⟨s', _⟩
    exact SqT.of (s' _ _ eu)
  · rintro i x t H' hx2 ⟨s', ys, l, el, rl, ll, okl, cl⟩ nt
    obtain ⟨r, hr2, rr⟩ := (hx.kt (Kt.of s')).2 i x hx2
    have ip := (List.getElem?_eq_some_iff.mp hr2).1
    have gr : rw' p i = r := by rw [rw_some ip]; exact (List.getElem?_eq_some_iff.mp hr2).2
    have sp := same_new (o := .tup [.int (i : Nat), x]) nt
    have s2 := s'.trans sp
    have el2 := sp _ _ el
    have rl2 := rl.kt (Kt.of sp)
    have rr2 := rr.kt (Kt.of sp)
    refine ⟨t, _, rfl, SqT.of upd_same, rfl, _, _, rfl, _, _, rfl, rfl, ?_⟩
    generalize upd H' t (.tup [.int (i : Nat), x]) = H2 at s2 el2 rl2 rr2 ⊢
    refine ⟨rfl, ?_⟩
    refine ⟨x, rfl, .int (i : Nat), rfl, x, r, i, rfl, rr2, okp.1 r (List.mem_of_getElem? hr2), by have := (bp.2 r (List.mem_of_getElem? hr2)).1; omega, by omega, fun z d H3 s3 rz okd cd => ?_⟩
    have el3 := s3 _ _ el2
    have lys := rl2.1
    refine ⟨ys, el3, lt_line (by omega), same_upd (s2.trans s3) nL, ys ++ [z], l ++ [d], upd_same, ((rl2.kt (Kt.of s3)).snoc rz).kt (kt_upd el3), by simp [ll], fun r' hr' => ?_, fun k hk j => ?_⟩
    · rcases List.mem_append.mp hr' with h | h
      · exact okl r' h
      · rw [List.mem_singleton.mp h]; exact okd
    · rcases Nat.lt_or_eq_of_le (Nat.le_of_lt_succ hk) with c | c
      · rw [← cl k c j]
        unfold co rw'
        rw [List.getD_eq_getElem?_getD, List.getD_eq_getElem?_getD, List.getElem?_append_left (by omega)]
      · subst c
        have e : rw' (l ++ [d]) k = d := by
          unfold rw'
          rw [List.getD_eq_getElem?_getD, List.getElem?_append_right (by omega), ll, Nat.sub_self]
          rfl
        rw [co_rw, e, cd, co_rw p, gr]
  · rintro H' ⟨s', ys, l, el, rl, ll, okl, cl⟩
    have ct : ∀ i j, co (l.drop 1) i j = ((i + 1 : Nat) : Int) * co p (i + 1) j := fun i j => by
      rw [co_rw, drop_rw, ← co_rw]
      rcases Nat.lt_or_ge (i + 1) xs.length with c | c
      · exact cl _ c j
      · rw [co_none (show l.length ≤ i + 1 by omega), co_none (show p.length ≤ i + 1 by omega), Int.mul_zero]
    have okt : okP (l.drop 1) := by
      refine ⟨fun r hr => okl r (List.mem_of_mem_drop hr), fun r hr e => ?_⟩
      subst e
      have ne1 : l.drop 1 ≠ [] := fun z => by rw [z] at hr; simp at hr
      have l1 : 0 < (l.drop 1).length := List.length_pos_iff.mpr ne1
      rw [List.length_drop] at l1
      have pn : p ≠ [] := fun z => by
        rw [z] at lx
        rw [ll, lx] at l1
        simp at l1
      obtain ⟨ok1, ne2⟩ := lead_row okp pn
      rw [List.getLast?_eq_getElem?] at hr
      have e1 : rw' (l.drop 1) ((l.drop 1).length - 1) = [] := by
        unfold rw'
        rw [List.getD_eq_getElem?_getD, hr]
        rfl
      have e2 := ct ((l.drop 1).length - 1) ((rw' p (p.length - 1)).length - 1)
      rw [co_rw, e1, List.length_drop, show l.length - 1 - 1 + 1 = p.length - 1 from by omega] at e2
      have e3 := okR_last ok1 ne2
      exact Int.mul_ne_zero (by omega) e3 e2.symm
    have cut : L2.cutV ys (some (1 : Int)) none = ys.drop 1 := by
      unfold L2.cutV
      rw [show (some (1 : Int)) = some ((1 : Nat) : Int) from rfl, HT.sIx_nat, HT.sIx_none]
      rcases Nat.eq_zero_or_pos ys.length with c | c
      · have : ys = [] := List.eq_nil_of_length_eq_zero c
        subst this
        rfl
      · rw [Nat.min_eq_left (by omega), List.take_of_length_le (by rw [List.length_drop]; omega)]
    refine ⟨1, rfl, L, ys, rfl, SqL.of el, fun c1' nc => ⟨c1', _, rfl, .inl ⟨SqL.of upd_same, fun t nt => ?_⟩⟩⟩
    have sN := (same_new (o := .lst (L2.cutV ys (some (1 : Int)) none)) nc).trans (same_new (o := .tup (L2.cutV ys (some (1 : Int)) none)) nt)
    refine q _ (l.drop 1) _ (s'.trans sN) ⟨t, _, rfl, upd_same, ?_⟩ okt ct
    rw [cut] at sN ⊢
    exact (roa_drop rl).kt (Kt.of sN)
end
end K22

set_option Elab.async false
set_option linter.all false
set_option maxRecDepth 100000
set_option maxHeartbeats 4000000
local macro_rules | `(tactic| walk_at "rd") => `(tactic| dsimp only [Evl.tCut, L2.tSeq, L2.tNext, L2.tRet, L2.tRetN, L2.tAsg, L2.gName, L2.tIfS, L2.tDrop, L2.tCons, L2.tNil, L2.tC, L2.tVar, L2.tCB, L2.tAndV, L2.tOrV, L2.tNotV, L2.tB, L2.tTest, L2.tOp, L2.tUn, L2.tNot, L2.tAnd, L2.tOr, L2.tIf, L2.tCall, L2.tTup, L2.tLst, L2.tNotT, L2.tYes, L2.gTup, L2.gCons, L2.gNil, L2.gSub, L2.tBM0, L2.tBM, L2.tWhile, L2.tFor, L2.iRng1, L2.tAugS, Tw.iEnumT, L2.tCKw, L2.tAug, L2.ipI, RT.iRevA, L2.tPar, L2.tPar3, L2.tSl, L2.tNoPart, L2.tPart, Tw.tRevT])
namespace K22
open PySem PySem.Spec PyProof.Rows L2 Tw
section
variable {K : PySem.W.Frag} {wi : TI} {j : Nat} {elt : TE} {vs : List Nat} {σ : L2.St} {H : Hp} {Q : VK}
/-- [.. for i in range(lo, lo + n)], the items rows of which something is known -/
theorem lc_rowsR {lo : Int} {n : Nat} (C : Nat → List Int → Prop) (hi : ∀ R : It → Hp → Prop, R (Itr lo n) H → wi σ H R) (hn : n < 100000)
    (hw : ∀ x, wipe ((wipe σ vs).set j (some x)) vs = wipe σ vs)
    (he : ∀ (i : Nat) H1, i < n → Same H H1 → ∀ Z : VK, (∀ y r H2, Same H1 H2 → Ro H2 y r → C i r → Z y H2) → elt ((wipe σ vs).set j (some (.int (lo + (i : Int))))) H1 Z)
    (q : ∀ D ys rs H', Same H H' → H D = none → H' D = some (.lst ys) → RoA H' ys rs → rs.length = n → (∀ i r, rs[i]? = some r → C i r) → Q (.ref D) H') : tLc wi (gName j) tYes elt vs σ H Q := by
  refine hi _ fun D hD => ?_
  refine lc_range (lo := lo) (n := n) (fun m H' => Same H H' ∧ ∃ ys rs, H' D = some (.lst ys) ∧ RoA H' ys rs ∧ rs.length = m ∧ ∀ i r, rs[i]? = some r → C i r) ⟨same_new hD, [], [], upd_same, RoA.nil _, rfl, fun i r e => by simp at e⟩ (fun m H1 hm h => ?_) (fun H' h => ?_)
  · obtain ⟨s1, ys, rs, e1, r1, l1, c1⟩ := h
    refine ⟨hw _, ?_⟩
    unfold tYes
    simp only [if_true]
    refine he m H1 hm s1 _ fun y r H2 s2 ry cr => ?_
    have e2 := s2 _ _ e1
    have ly := r1.1
    refine ⟨ys, e2, lt_line (by omega), same_upd (s1.trans s2) hD, ys ++ [y], rs ++ [r], upd_same, ((r1.kt (Kt.of s2)).snoc ry).kt (kt_upd e2), by simp [l1], fun i r' e => ?_⟩
    rcases Nat.lt_trichotomy i rs.length with c | c | c
    · rw [List.getElem?_append_left c] at e
      exact c1 i r' e
    · rw [List.getElem?_append_right (by omega), c, Nat.sub_self] at e
      cases e
      rw [c, l1]
      exact cr
    · rw [List.getElem?_eq_none (by simp; omega)] at e
      cases e
  · obtain ⟨s1, ys, rs, e1, r1, l1, c1⟩ := h
    exact q D ys rs H' s1 hD e1 r1 l1 c1
end
def spPSum : Sp := fun vs H Q _ => ∃ u v p q b1 b2, vs = [u, v] ∧ Po H u p ∧ Po H v q ∧ (∃ a, We a H) ∧ Bd 8 b1 p ∧ Bd 8 b2 q ∧ ∀ z t H', Same H H' → Po H' z t → okP t → t.length ≤ max p.length q.length → (∀ n, (∀ r ∈ p, r.length ≤ n) → (∀ r ∈ q, r.length ≤ n) → ∀ r ∈ t, r.length ≤ n ∧ SB (b1 + b2) r) → (∀ i j, co t i j = co p i j + co q i j) → Q z H'
section
variable {P : Program} {w : World} {K : PySem.W.Frag} {mg : Str → Option Value} {base : Heap}
/-- poly + ((),) * many, as it is read; the poly with empty rows behind -/
def RoQ (K : PySem.W.Frag) (H : Hp) (t : Addr) (p : List (List Int)) (N : Nat) : Prop := ∃ ys, SqT K H t ys ∧ ys.length = N ∧ ∀ (k : Nat) y, ys[k]? = some y → Ro H y (rw' p k)
theorem RoQ.same {H H' : Hp} {t : Addr} {p : List (List Int)} {N : Nat} (s : Same H H') (h : RoQ K H t p N) : RoQ K H' t p N := by
  obtain ⟨ys, h1, h2, h3⟩ := h
  exact ⟨ys, seqT s h1, h2, fun k y e => (h3 k y e).kt (Kt.of s)⟩
theorem padP_rd {pu : Addr} {xs : List V} {p : List (List Int)} {N : Nat} {H : Hp} {Q : VK} (e : H pu = some (.tup xs)) (hx : RoA H xs p) (hr : p.length ≤ N) (hN : N ≤ 100) {e0 : Addr} (h0 : H e0 = some (.tup [])) (q : ∀ t H', Same H H' → RoQ K H' t p N → Q (.ref t) H') :
    ∀ p1, H p1 = none → rMulT K (.ref p1) (.int ((N - p.length : Nat) : Int)) (upd H p1 (.tup [.ref e0])) fun x H2 => rCatA K (.ref pu) x H2 Q := by
  intro p1 np
  have s1 := same_new (o := .tup [.ref e0]) np
  have lx := hx.1
  refine ⟨p1, N - p.length, [.ref e0], rfl, rfl, SqT.of upd_same, by simp, by omega, by simp, fun t H2 s2 ht => ?_⟩
  rw [flat_one] at ht
  have s12 := s1.trans s2
  have whole : ∀ H3, Same H H3 → ∀ (k : Nat) y, (xs ++ List.replicate (N - p.length) (V.ref e0))[k]? = some y → Ro H3 y (rw' p k) := fun H3 s3 k y ey => by
    rcases Nat.lt_or_ge k xs.length with c | c
    · rw [List.getElem?_append_left c] at ey
      obtain ⟨r, e1, e2⟩ := (hx.kt (Kt.of s3)).2 k y ey
      have ip := (List.getElem?_eq_some_iff.mp e1).1
      rw [rw_some ip, (List.getElem?_eq_some_iff.mp e1).2]
      exact e2
    · rw [List.getElem?_append_right c, List.getElem?_replicate] at ey
      split at ey
      · cases ey
        rw [rw_none (by omega)]
        exact ⟨e0, rfl, s3 _ _ h0⟩
      · cases ey
  have len : (xs ++ List.replicate (N - p.length) (V.ref e0)).length = N := by rw [List.length_append, List.length_replicate]; omega
  refine ⟨pu, t, xs, _, rfl, rfl, SqT.of (s12 _ _ e), ht, sz (by rw [List.length_replicate]; omega), fun c => ?_, fun c c2 => ?_, fun c c2 p2 np2 => ?_⟩
  · refine q t H2 s12 ⟨_, ht, ?_, ?_⟩
    · rw [c, List.nil_append] at len; exact len
    · have := whole H2 s12
      rw [c, List.nil_append] at this
      exact this
  · refine q pu H2 s12 ⟨xs, SqT.of (s12 _ _ e), ?_, ?_⟩
    · rw [c2, List.append_nil] at len; exact len
    · have := whole H2 s12
      rw [c2, List.append_nil] at this
      exact this
  · have s3 := s12.trans (same_new (o := .tup (xs ++ List.replicate (N - p.length) (V.ref e0))) np2)
    exact q p2 _ s3 ⟨_, SqT.of upd_same, len, whole _ s3⟩
end
end K22

set_option Elab.async false
set_option linter.all false
set_option maxRecDepth 100000
set_option maxHeartbeats 4000000
local macro_rules | `(tactic| walk_at "rd") => `(tactic| dsimp only [Evl.tCut, L2.tSeq, L2.tNext, L2.tRet, L2.tRetN, L2.tAsg, L2.gName, L2.tIfS, L2.tDrop, L2.tCons, L2.tNil, L2.tC, L2.tVar, L2.tCB, L2.tAndV, L2.tOrV, L2.tNotV, L2.tB, L2.tTest, L2.tOp, L2.tUn, L2.tNot, L2.tAnd, L2.tOr, L2.tIf, L2.tCall, L2.tTup, L2.tLst, L2.tNotT, L2.tYes, L2.gTup, L2.gCons, L2.gNil, L2.gSub, L2.tBM0, L2.tBM, L2.tWhile, L2.tFor, L2.iRng1, L2.tAugS, Tw.iEnumT, L2.tCKw, L2.tAug, L2.ipI, RT.iRevA, L2.tPar, L2.tPar3, L2.tSl, L2.tNoPart, L2.tPart, Tw.tRevT])
namespace K22
open PySem PySem.Spec PyProof.Rows L2 Tw
section
variable {P : Program} {w : World} {K : PySem.W.Frag} {mg : Str → Option Value} {base : Heap}
theorem scPSum : FnScope ["_law_one", "_law_two", "_law_many", "_law_far", "_law_high", "_law_k"] ["_law_one", "_law_two"] (defScope sPSum) := ⟨rfl, rfl, rfl, by decide +kernel, rfl, by decide +kernel, by decide +kernel⟩
theorem ok_psum (D : Def K mg "_law_poly_sum" sPSum ["_law_one", "_law_two"]) (nb : Nb mg) (c1 : Cal P w K mg base "_law_trim" 1 ["_law_some"] spTrim) (c3 : Cal P w K mg base "_law_row_sum" 2 ["_law_one", "_law_two"] spRSum) : Cal P w K mg base "_law_poly_sum" 3 ["_law_one", "_law_two"] spPSum := by
  have c2 := c1.imp trim_rows
  refine D.ok scPSum (fun vs H Q E h => ?_) (fun f cdv A out s H vs Q E hr h => ?_)
  · obtain ⟨u, v, r, s, b1, b2, rfl, _⟩ := h; rfl
  obtain ⟨u, v, p, t, b1, b2, rfl, hu, hv, ⟨wa, hw⟩, bp, bt, q⟩ := h
  refine ⟨_, pss_cons (ps_set (i := 2) scPSum.nd rfl (Or.inl rfl) (pe_callB (id := "max") (call_max2 rfl) (by rfl) nb.max (by decide +kernel) (pa_cons (pe_callB (id := "len") (r := rLn K) call_len_seq (by rfl) nb.len PySem.boot_len (pa_cons (pv 0) pa_nil)) (pa_cons (pe_callB (id := "len") (r := rLn K) call_len_seq (by rfl) nb.len PySem.boot_len (pa_cons (pv 1) pa_nil)) pa_nil))))
    (pss_cons (ps_asg (pe_tup (pa_cons (pe_op (r := rCatA K) op_catA (pv 0) (pe_op (r := rMulT K) op_mulT (pe_tup (pa_cons (pe_tup pa_nil) pa_nil)) (pe_op op_sub (pv 2) (pe_callB (id := "len") (r := rLn K) call_len_seq (by rfl) nb.len PySem.boot_len (pa_cons (pv 0) pa_nil)))))
          (pa_cons (pe_op (r := rCatA K) op_catA (pv 1) (pe_op (r := rMulT K) op_mulT (pe_tup (pa_cons (pe_tup pa_nil) pa_nil)) (pe_op op_sub (pv 2) (pe_callB (id := "len") (r := rLn K) call_len_seq (by rfl) nb.len PySem.boot_len (pa_cons (pv 1) pa_nil))))) pa_nil)))
        (pg_tup rfl (pgs_cons (pg_name (i := 3) scPSum.nd rfl (Or.inr rfl)) (pgs_cons (pg_name (i := 4) scPSum.nd rfl (Or.inr rfl)) pgs_nil))))
    (pss_one (ps_ret (pe_cal c2 hr (by decide) (by rfl) (pa_cons
        (pe_lc (own := [("_law_k", 5)]) (g := gName 5) (tt := tYes) rfl scPSum.nd (pi_range1 (by rfl) nb.rng (pa_cons (pv 2) pa_nil)) (blkOk_by (N := ["_law_one", "_law_two", "_law_many", "_law_far", "_law_high", "_law_k"]) (sc := defScope sPSum) (by decide +kernel))
            (fun _ _ _ _ _ => pg_name (i := 5) scPSum.nd rfl (Or.inl rfl)) (fun _ _ _ _ _ => pts_nil)
            (fun _ _ _ _ _ => pe_cal c3 hr (by decide) (by rfl) (pa_cons (pe_ix (r := rIxT K) ix_tup (pv 3) (pv 5) (fun _ _ => rfl)) (pa_cons (pe_ix (r := rIxT K) ix_tup (pv 4) (pv 5) (fun _ _ => rfl)) pa_nil)))) pa_nil))))), ?_⟩
  walk_at "rd"
  obtain ⟨pu, xs, rfl, eu, hx⟩ := hu
  obtain ⟨pw, ys, rfl, ev, hy⟩ := hv
  have lx := hx.1
  have ly := hy.1
  have lp := bp.1
  have lt := bt.1
  refine ⟨.ref pu, rfl, pu, _, rfl, .inr (SqT.of eu), .ref pw, rfl, pw, _, rfl, .inr (SqT.of ev), _, _, rfl, ?_⟩
  have em : (if (ys.length : Int) > (xs.length : Int) then (ys.length : Int) else (xs.length : Int)) = ((max p.length t.length : Nat) : Int) := by
    split <;> omega
  rw [em]
  generalize hN : max p.length t.length = N
  have hpN : p.length ≤ N := by omega
  have htN : t.length ≤ N := by omega
  have hN100 : N ≤ 100 := by omega
  have e1 : (N : Int) - (xs.length : Int) = ((N - p.length : Nat) : Int) := by omega
  have e2 : (N : Int) - (ys.length : Int) = ((N - t.length : Nat) : Int) := by omega
  refine ⟨.ref pu, rfl, sz (by simp), fun z0 nz0 => ?_⟩
  have sz0 := same_new (o := .tup []) nz0
  have ez0 : upd H z0 (.tup []) z0 = some (.tup []) := upd_same
  generalize upd H z0 (.tup []) = G0 at sz0 ez0 ⊢
  refine ⟨sz (by simp), fun p1 np1 => ?_⟩
  have s1 := sz0.trans (same_new (o := .tup [.ref z0]) np1)
  refine ⟨.int N, rfl, .ref pu, rfl, pu, _, rfl, .inr (SqT.of (s1 _ _ eu)), _, _, rfl, rfl, ?_⟩
  walk_at "rd"
  rw [e1]
  refine padP_rd (K := K) (sz0 _ _ eu) (hx.kt (Kt.of sz0)) hpN hN100 ez0 (fun t1 H1 s1 h1 => ?_) p1 np1
  have s01 := sz0.trans s1
  refine ⟨.ref pw, rfl, sz (by simp), fun z1 nz1 => ?_⟩
  have sz1 := same_new (o := .tup []) nz1
  have ez1 : upd H1 z1 (.tup []) z1 = some (.tup []) := upd_same
  have h1a := h1.same sz1
  generalize upd H1 z1 (.tup []) = G1 at sz1 ez1 h1a ⊢
  have s11 := s01.trans sz1
  refine ⟨sz (by simp), fun p2 np2 => ?_⟩
  have s2 := s11.trans (same_new (o := .tup [.ref z1]) np2)
  refine ⟨.int N, rfl, .ref pw, rfl, pw, _, rfl, .inr (SqT.of (s2 _ _ ev)), _, _, rfl, rfl, ?_⟩
  walk_at "rd"
  rw [e2]
  refine padP_rd (K := K) (s11 _ _ ev) (hy.kt (Kt.of s11)) htN hN100 ez1 (fun t2 H2 s2 h2 => ?_) p2 np2
  refine ⟨sz (by simp), fun p3 np3 => ⟨p3, _, rfl, SqT.of upd_same, rfl, _, _, rfl, _, _, rfl, rfl, ?_⟩⟩
  have s3 := same_new (o := .tup [.ref t1, .ref t2]) np3
  have h1' := h1a.same (s2.trans s3)
  have h2' := h2.same s3
  have s03 := s11.trans (s2.trans s3)
  refine lc_rowsR (lo := 0) (n := N) (fun k r => okR r ∧ r.length ≤ max (rw' p k).length (rw' t k).length ∧ SB (b1 + b2) r ∧ ∀ j, g r j = co p k j + co t k j) (fun R hR => ⟨.int N, rfl, (N : Int), rfl, by omega, by omega, hR⟩) (by omega) (fun x => wipeJ _ _ _) (fun k H4 hk s4 Z hZ => ?_) fun L zs rs H4 s4 nL eL rz lz cz => ?_
  · walk_at "rd"
    rw [Int.zero_add]
    obtain ⟨ya, qa, la, fa⟩ := h1'.same s4
    obtain ⟨yb, qb, lb, fb⟩ := h2'.same s4
    have ga := List.getElem?_eq_getElem (l := ya) (i := k) (by omega)
    have gb := List.getElem?_eq_getElem (l := yb) (i := k) (by omega)
    have sbr : ∀ {b : Nat} {p : List (List Int)}, Bd 8 b p → SB b (rw' p k) := fun {b p} h => by
      rcases Nat.lt_or_ge k p.length with c | c
      · rw [rw_some c]; exact (h.2 _ (List.getElem_mem _)).2
      · rw [rw_none c]; exact fun c hc => (by cases hc)
    refine ⟨.ref t1, rfl, .int k, rfl, t1, ya, k, _, rfl, rfl, qa, atI_nat ga, .ref t2, rfl, .int k, rfl, t2, yb, k, _, rfl, rfl, qb, atI_nat gb, _, _, rw' p k, rw' t k, b1, b2, rfl, fa k _ ga, fb k _ gb, ?_, ?_, sbr bp, sbr bt, fun z r H5 s5 r5 ok5 l5 b5 g5 => hZ z r H5 s5 r5 ⟨ok5, l5, b5, g5⟩⟩
    · exact Nat.le_trans (len_rw (fun r hr => (bp.2 r hr).1) k) (by decide)
    · exact Nat.le_trans (len_rw (fun r hr => (bt.2 r hr).1) k) (by decide)
  · have row : ∀ r ∈ rs, ∃ k, okR r ∧ r.length ≤ max (rw' p k).length (rw' t k).length ∧ SB (b1 + b2) r := fun r hr => by
      obtain ⟨i, hi, rfl⟩ := List.mem_iff_getElem.mp hr
      have c := cz i _ (List.getElem?_eq_getElem hi)
      exact ⟨i, c.1, c.2.1, c.2.2.1⟩
    refine ⟨L, zs, rs, rfl, eL, rz, ⟨wa, hw.to (s03.trans s4)⟩, fun z H5 s5 r5 => q z _ H5 (s03.trans (s4.trans s5)) r5 (okP_trim fun r hr => ?_) ?_ (fun n hp ht r hr => ?_) fun i j => ?_⟩
    · obtain ⟨k, ok, _⟩ := row r hr
      exact ok
    · have : (trimP rs).length ≤ rs.length := trimBy_len _ rs
      omega
    · obtain ⟨k, _, l, b⟩ := row r (trimBy_mem _ _ hr)
      have := len_rw hp k
      have := len_rw ht k
      exact ⟨by omega, b⟩
    · rw [co_rw, rw_trim]
      rcases Nat.lt_or_ge i rs.length with c | c
      · rw [rw_some c]
        exact (cz i _ (List.getElem?_eq_getElem c)).2.2.2 j
      · rw [rw_none c, co_none (show p.length ≤ i by omega), co_none (show t.length ≤ i by omega)]
        rfl
end
end K22

set_option Elab.async false
set_option linter.all false
set_option maxRecDepth 100000
set_option maxHeartbeats 4000000
local macro_rules | `(tactic| walk_at "rd") => `(tactic| dsimp only [Evl.tCut, L2.tSeq, L2.tNext, L2.tRet, L2.tRetN, L2.tAsg, L2.gName, L2.tIfS, L2.tDrop, L2.tCons, L2.tNil, L2.tC, L2.tVar, L2.tCB, L2.tAndV, L2.tOrV, L2.tNotV, L2.tB, L2.tTest, L2.tOp, L2.tUn, L2.tNot, L2.tAnd, L2.tOr, L2.tIf, L2.tCall, L2.tTup, L2.tLst, L2.tNotT, L2.tYes, L2.gTup, L2.gCons, L2.gNil, L2.gSub, L2.tBM0, L2.tBM, L2.tWhile, L2.tFor, L2.iRng1, L2.iRng2, L2.tAugS, Tw.iEnumT, L2.tCKw, L2.tAug, L2.ipI, RT.iRevA, L2.tPar, L2.tPar3, L2.tSl, L2.tNoPart, L2.tPart, Tw.tRevT])
namespace K22
open PySem PySem.Spec PyProof.Rows L2 Tw
def spLed : Sp := fun vs H Q _ => ∃ u p b, vs = [u] ∧ Po H u p ∧ (∃ a, We a H) ∧ Bd 8 b p ∧ ∀ z t H', Same H H' → Po H' z t → okP t → Bd 8 (8 * b) t → (∀ i j, co t i j = ((i + 1 : Nat) : Int) * co p (i + 1) j) → Q z H'
section
variable {P : Program} {w : World} {K : PySem.W.Frag} {mg : Str → Option Value} {base : Heap}
theorem scLed : FnScope ["_law_some", "_law_k"] ["_law_some"] (defScope sLed) := ⟨rfl, rfl, rfl, by decide +kernel, rfl, by decide +kernel, by decide +kernel⟩
theorem ok_led (D : Def K mg "_law_led" sLed ["_law_some"]) (nb : Nb mg) (c1 : Cal P w K mg base "_law_trim" 1 ["_law_some"] spTrim) (c3 : Cal P w K mg base "_law_scaled" 2 ["_law_row_here", "_law_by"] spLScaled) : Cal P w K mg base "_law_led" 3 ["_law_some"] spLed := by
  have c2 := c1.imp trim_rows
  refine D.ok scLed (fun vs H Q E h => ?_) (fun f cdv A out s H vs Q E hr h => ?_)
  · obtain ⟨u, p, b, rfl, _⟩ := h; rfl
  obtain ⟨u, p, b, rfl, hu, ⟨wa, hw⟩, bp, q⟩ := h
  refine ⟨_, pss_one (ps_ret (pe_cal c2 hr (by decide) (by rfl) (pa_cons
        (pe_lc (own := [("_law_k", 1)]) (g := gName 1) (tt := tYes) rfl scLed.nd (pi_range2 (by rfl) nb.rng (pa_cons pe_int (pa_cons (pe_callB (id := "len") (r := rLn K) call_len_seq (by rfl) nb.len PySem.boot_len (pa_cons (pv 0) pa_nil)) pa_nil))) (blkOk_by (N := ["_law_some", "_law_k"]) (sc := defScope sLed) (by decide +kernel))
            (fun _ _ _ _ _ => pg_name (i := 1) scLed.nd rfl (Or.inl rfl)) (fun _ _ _ _ _ => pts_nil)
            (fun _ _ _ _ _ => pe_cal c3 hr (by decide) (by rfl) (pa_cons (pe_ix (r := rIxT K) ix_tup (pv 0) (pv 1) (fun _ _ => rfl)) (pa_cons (pv 1) pa_nil)))) pa_nil))), ?_⟩
  walk_at "rd"
  obtain ⟨pu, xs, rfl, eu, hx⟩ := hu
  have lx := hx.1
  have lp := bp.1
  refine lc_rowsR (lo := 1) (n := xs.length - 1) (fun k r => okR r ∧ r.length ≤ 8 ∧ SB (8 * b) r ∧ ∀ j, g r j = ((k + 1 : Nat) : Int) * co p (k + 1) j) (fun R hR => ?_) (by omega) (fun x => wipeJ _ _ _) (fun k H4 hk s4 Z hZ => ?_) fun L zs rs H4 s4 nL eL rz lz cz => ?_
  · refine ⟨.ref pu, rfl, pu, _, rfl, .inr (SqT.of eu), 1, (xs.length : Int), rfl, ⟨by omega, by omega, by omega, by omega⟩, ?_⟩
    rw [show ((xs.length : Int) - 1).toNat = xs.length - 1 from by omega]
    exact hR
  · walk_at "rd"
    have kp : k + 1 < p.length := by omega
    obtain ⟨y, gy, ry⟩ := (hx.kt (Kt.of s4)).get kp
    have m := bp.2 _ (List.getElem_mem kp)
    have e1 : (1 : Int) + (k : Int) = ((k + 1 : Nat) : Int) := by omega
    rw [e1]
    refine ⟨.ref pu, rfl, .int (k + 1 : Nat), rfl, pu, xs, _, y, rfl, rfl, SqT.of (s4 _ _ eu), atI_nat gy, .int (k + 1 : Nat), rfl, y, p[k + 1], _, b, rfl, ry, by omega, by omega, m.2, fun z r H5 s5 r5 ok5 l5 b5 g5 => hZ z r H5 s5 r5 ⟨ok5, by omega, b5.up ?_, fun j => ?_⟩⟩
    · refine Nat.mul_le_mul_right _ ?_
      omega
    · rw [g5, co_rw, rw_some kp]
  · refine ⟨L, zs, rs, rfl, eL, rz, ⟨wa, hw.to s4⟩, fun z H5 s5 r5 => q z _ H5 (s4.trans s5) r5 (okP_trim fun r hr => ?_) ⟨?_, fun r hr => ?_⟩ fun i j => ?_⟩
    · obtain ⟨i, hi, rfl⟩ := List.mem_iff_getElem.mp hr
      exact (cz i _ (List.getElem?_eq_getElem hi)).1
    · have : (trimP rs).length ≤ rs.length := trimBy_len _ rs
      omega
    · obtain ⟨i, hi, rfl⟩ := List.mem_iff_getElem.mp (trimBy_mem _ _ hr)
      have c := cz i _ (List.getElem?_eq_getElem hi)
      exact ⟨c.2.1, c.2.2.1⟩
    · rw [co_rw, rw_trim]
      rcases Nat.lt_or_ge i rs.length with c | c
      · rw [rw_some c]
        exact (cz i _ (List.getElem?_eq_getElem c)).2.2.2 j
      · rw [rw_none c, co_none (show p.length ≤ i + 1 by omega), Int.mul_zero]
        rfl
theorem scApDer : FnScope ["poly"] ["poly"] (defScope sApDer) := ⟨rfl, rfl, rfl, by decide +kernel, rfl, by decide +kernel, by decide +kernel⟩
theorem ok_apder (D : Def K mg "derived" sApDer ["poly"]) (c1 : Cal P w K mg base "check_poly" 4 ["poly"] spChkP) (c2 : Cal P w K mg base "poly_derived" 2 ["poly"] spDerP) : Cal P w K mg base "derived" 5 ["poly"] (fun vs H Q _ => ∃ a u p b, vs = [u] ∧ We a H ∧ Po H u p ∧ okP p ∧ Bd 8 b p ∧ ∀ z t H', Same H H' → Po H' z t → okP t → (∀ i j, co t i j = ((i + 1 : Nat) : Int) * co p (i + 1) j) → Q z H') := by
  refine D.ok scApDer (fun vs H Q E h => ?_) (fun f cdv A out s H vs Q E hr h => ?_)
  · obtain ⟨a, u, p, b, rfl, _⟩ := h; rfl
  obtain ⟨a, u, p, b, rfl, hw, hp, op, bp, k⟩ := h
  refine ⟨_, pss_cons (ps_expr (pe_cal c1 hr (by decide) (by rfl) (pa_cons (pv 0) pa_nil))) (pss_one (ps_ret (pe_cal c2 hr (by decide) (by rfl) (pa_cons (pv 0) pa_nil)))), ?_⟩
  walk_at "rd"
  exact ⟨u, rfl, a, u, p, b, rfl, hw, hp, op, bp, fun x H1 s1 => ⟨u, rfl, u, p, b, rfl, hp.kt (Kt.of s1), op, bp, fun z t H2 s2 r2 o2 e2 => k z t H2 (s1.trans s2) r2 o2 e2⟩⟩
end
end K22

set_option Elab.async false
set_option linter.all false
set_option maxRecDepth 100000
set_option maxHeartbeats 4000000
namespace K22
/-! what a row, a poly is worth at fractions: whole numbers over powers -/
/-- the row's worth at n / m, times m ^ J -/
def Rv (n m : Int) (f : Nat → Int) (J : Nat) : Int := S (J + 1) fun i => f i * (n ^ i * m ^ (J - i))
theorem Rv_zero {n m : Int} {f : Nat → Int} (J : Nat) (z : ∀ i, f i = 0) : Rv n m f J = 0 := by
  unfold Rv
  rw [S_ext (h := fun _ => 0) _ fun i _ => by rw [z, Int.zero_mul], S_zero]
theorem Rv_ext {n m : Int} {f h : Nat → Int} (J : Nat) (z : ∀ i, f i = h i) : Rv n m f J = Rv n m h J := by
  unfold Rv
  exact S_ext _ fun i _ => by rw [z]
theorem Rv_add {n m : Int} {f h : Nat → Int} (J : Nat) : Rv n m (fun i => f i + h i) J = Rv n m f J + Rv n m h J := by
  unfold Rv
  rw [← S_add]
  exact S_ext _ fun i _ => by rw [Int.add_mul]
theorem Rv_mul {n m : Int} {f : Nat → Int} (c : Int) (J : Nat) : Rv n m (fun i => c * f i) J = c * Rv n m f J := by
  unfold Rv
  rw [← S_mul]
  exact S_ext _ fun i _ => by rw [Int.mul_assoc]
theorem Rv_up {n m : Int} {f : Nat → Int} {J : Nat} (z : ∀ i, J < i → f i = 0) : ∀ d, Rv n m f (J + d) = m ^ d * Rv n m f J
  | 0 => by rw [Int.pow_zero, Int.one_mul]; rfl
  | d + 1 => by
    have ih := Rv_up (n := n) (m := m) z d
    have e : Rv n m f (J + (d + 1)) = m * Rv n m f (J + d) := by
      unfold Rv
      rw [show J + (d + 1) + 1 = (J + d + 1) + 1 from by omega, S, z (J + d + 1) (by omega), Int.zero_mul, Int.add_zero, ← S_mul]
      refine S_ext _ fun i hi => ?_
      rw [show J + (d + 1) - i = (J + d - i) + 1 from by omega, Int.pow_succ]
      grind
    rw [e, ih, Int.pow_succ]
    grind
theorem Rv_T {n m : Int} : ∀ (r : List Int) (J : Nat), r.length ≤ J + 1 → T n m r * m ^ (J + 1 - r.length) = Rv n m (g r) J
  | [], J, _ => by rw [Rv_zero J fun i => g_none (Nat.zero_le _), T, Int.zero_mul]
  | c :: r, J, h => by
    have e1 : Rv n m (g (c :: r)) J = c * m ^ J + S J (fun i => g r i * (n ^ (i + 1) * m ^ (J - (i + 1)))) := by
      unfold Rv
      rw [S_shift]
      congr 1
      rw [Int.pow_zero, Int.one_mul, Nat.sub_zero]
      rfl
    rw [e1, T, List.length_cons]
    cases J with
    | zero =>
      have h' : r.length + 1 ≤ 0 + 1 := h
      have : r = [] := List.eq_nil_of_length_eq_zero (by omega)
      subst this
      simp [T, S]
    | succ k =>
      have h' : r.length + 1 ≤ k + 1 + 1 := h
      have hk : r.length ≤ k + 1 := by omega
      have ih := Rv_T (n := n) (m := m) r k hk
      have e2 : S (k + 1) (fun i => g r i * (n ^ (i + 1) * m ^ (k + 1 - (i + 1)))) = n * Rv n m (g r) k := by
        unfold Rv
        rw [← S_mul]
        refine S_ext _ fun i hi => ?_
        rw [show k + 1 - (i + 1) = k - i from by omega, Int.pow_succ]
        grind
      rw [e2, ← ih, show k + 1 + 1 - (r.length + 1) = k + 1 - r.length from by omega]
      have e3 : m ^ (k + 1) = m ^ r.length * m ^ (k + 1 - r.length) := by rw [← Int.pow_add]; congr 1; omega
      rw [e3]
      grind
theorem S_drop {F : Nat → Int} (a : Nat) (z : ∀ i, i < a → F i = 0) : ∀ N, S (a + N) F = S N fun i => F (a + i)
  | 0 => by rw [Nat.add_zero, S_ext (h := fun _ => 0) _ z, S_zero]; rfl
  | N + 1 => by rw [← Nat.add_assoc, S, S_drop a z N, S]
theorem Rv_cv {n m : Int} {f h : Nat → Int} {J1 J2 : Nat} (zf : ∀ i, J1 < i → f i = 0) (zh : ∀ i, J2 < i → h i = 0) : Rv n m (cv f h) (J1 + J2) = Rv n m f J1 * Rv n m h J2 := by
  have e1 : Rv n m (cv f h) (J1 + J2) = S (J1 + J2 + 1) fun k => S (J1 + 1) fun a => (n ^ k * m ^ (J1 + J2 - k)) * (if a ≤ k then f a * h (k - a) else 0) := by
    unfold Rv
    refine S_ext _ fun k _ => ?_
    rw [S_mul, cv_loop (fun i hi => zf i (by omega)), Int.mul_comm]
  have e2 : Rv n m f J1 * Rv n m h J2 = S (J1 + 1) fun a => (f a * (n ^ a * m ^ (J1 - a))) * Rv n m h J2 := by
    rw [Int.mul_comm]
    conv => lhs; rw [show Rv n m f J1 = S (J1 + 1) fun i => f i * (n ^ i * m ^ (J1 - i)) from rfl]
    rw [← S_mul]
    exact S_ext _ fun i _ => Int.mul_comm _ _
  rw [e1, e2, S_comm]
  refine S_ext _ fun a ha => ?_
  rw [show J1 + J2 + 1 = a + ((J1 - a) + (J2 + 1)) from by omega, S_drop a (fun i hi => by rw [if_neg (by omega), Int.mul_zero])]
  rw [S_more (n := J2 + 1) (by omega) (fun i hi => by rw [if_pos (by omega), show a + i - a = i from by omega, zh i (by omega), Int.mul_zero, Int.mul_zero])]
  unfold Rv
  rw [← S_mul]
  refine S_ext _ fun i hi => ?_
  rw [if_pos (by omega), show a + i - a = i from by omega, Int.pow_add, show J1 + J2 - (a + i) = (J1 - a) + (J2 - i) from by omega, Int.pow_add]
  grind
/-- the poly's worth at (n / m, k / l), times m ^ J l ^ I -/
def Pv (n m k l : Int) (p : List (List Int)) (J I : Nat) : Int := Rv k l (fun i => Rv n m (co p i) J) I
abbrev Vl (n m k l : Int) (p : List (List Int)) : Int := Pv n m k l p 7 7
theorem Vl_add {n m k l : Int} {p q t : List (List Int)} (h : ∀ i j, co t i j = co p i j + co q i j) : Vl n m k l t = Vl n m k l p + Vl n m k l q := by
  unfold Vl Pv
  rw [← Rv_add]
  refine Rv_ext _ fun i => ?_
  rw [← Rv_add]
  exact Rv_ext _ fun j => h i j
theorem co_out {n b : Nat} {p : List (List Int)} (h : Bd n b p) {i j : Nat} (c : n ≤ i ∨ n ≤ j) : co p i j = 0 := by
  rcases Nat.lt_or_ge i p.length with d | d
  · rcases c with c | c
    · have := h.1; omega
    · unfold co
      rw [rw_some d]
      exact g_none (Nat.le_trans (h.2 _ (List.getElem_mem _)).1 c)
  · unfold co
    rw [rw_none d]
    exact g_none (Nat.zero_le _)
theorem Vl_low {n m k l : Int} {b : Nat} {p : List (List Int)} (h : Bd 4 b p) : Vl n m k l p = l ^ 4 * (m ^ 4 * Pv n m k l p 3 3) := by
  unfold Vl Pv
  have e : Rv k l (fun i => Rv n m (co p i) 7) 7 = Rv k l (fun i => m ^ 4 * Rv n m (co p i) 3) 7 := Rv_ext _ fun i => Rv_up (J := 3) (fun j hj => co_out h (.inr hj)) 4
  rw [e, Rv_mul, Rv_up (J := 3) (fun i hi => Rv_zero _ fun j => co_out h (.inl hi)) 4]
  grind
theorem Vl_six {n m k l : Int} {p : List (List Int)} (h : ∀ i j, 7 ≤ i ∨ 7 ≤ j → co p i j = 0) : Vl n m k l p = l * (m * Pv n m k l p 6 6) := by
  unfold Vl Pv
  have e : Rv k l (fun i => Rv n m (co p i) 7) 7 = Rv k l (fun i => m ^ 1 * Rv n m (co p i) 6) 7 := Rv_ext _ fun i => Rv_up (J := 6) (fun j hj => h i j (.inr hj)) 1
  rw [e, Rv_mul, Rv_up (J := 6) (fun i hi => Rv_zero _ fun j => h i j (.inl hi)) 1]
  grind
theorem cv_out {f h : Nat → Int} {a b k : Nat} (zf : ∀ i, a < i → f i = 0) (zh : ∀ i, b < i → h i = 0) (hk : a + b < k) : cv f h k = 0 := by
  unfold cv
  rw [S_ext (h := fun _ => 0) _ fun i _ => by
    rcases Nat.lt_or_ge a i with c | c
    · rw [zf i c, Int.zero_mul]
    · rw [zh (k - i) (by omega), Int.mul_zero], S_zero]
theorem Pv_cv2 {n m k l : Int} {b1 b2 : Nat} {p q t : List (List Int)} (hp : Bd 4 b1 p) (hq : Bd 4 b2 q) (h : ∀ i j, co t i j = cv2 p q i j) : Pv n m k l t 6 6 = Pv n m k l p 3 3 * Pv n m k l q 3 3 := by
  unfold Pv
  rw [← Rv_cv (J1 := 3) (J2 := 3) (fun i hi => Rv_zero _ fun j => co_out hp (.inl hi)) (fun i hi => Rv_zero _ fun j => co_out hq (.inl hi))]
  refine Rv_ext _ fun i => ?_
  rw [Rv_ext 6 (h := fun j => cv2 p q i j) fun j => h i j]
  unfold cv2
  have lin : ∀ N : Nat, Rv n m (fun j => S N fun a => cv (co p a) (co q (i - a)) j) 6 = S N fun a => Rv n m (cv (co p a) (co q (i - a))) 6 := fun N => by
    induction N with
    | zero => exact Rv_zero _ fun j => rfl
    | succ N ih =>
      rw [S, ← ih, ← Rv_add]
      exact Rv_ext _ fun j => rfl
  rw [lin]
  unfold cv
  refine S_ext _ fun a _ => ?_
  exact Rv_cv (J1 := 3) (J2 := 3) (fun j hj => co_out hp (.inr hj)) (fun j hj => co_out hq (.inr hj))
theorem cv2_out {b1 b2 : Nat} {p q : List (List Int)} (hp : Bd 4 b1 p) (hq : Bd 4 b2 q) {i j : Nat} (c : 7 ≤ i ∨ 7 ≤ j) : cv2 p q i j = 0 := by
  unfold cv2
  rw [S_ext (h := fun _ => 0) _ fun a ha => ?_, S_zero]
  rcases c with c | c
  · unfold cv
    rw [S_ext (h := fun _ => 0) _ fun x hx => ?_, S_zero]
    rcases Nat.lt_or_ge 3 a with d | d
    · rw [co_out hp (.inl d), Int.zero_mul]
    · rw [co_out hq (.inl (show 4 ≤ i - a by omega)), Int.mul_zero]
  · exact cv_out (a := 3) (b := 3) (fun x hx => co_out hp (.inr hx)) (fun x hx => co_out hq (.inr hx)) (by omega)
theorem Vl_mul {n m k l : Int} {b1 b2 : Nat} {p q t : List (List Int)} (hp : Bd 4 b1 p) (hq : Bd 4 b2 q) (h : ∀ i j, co t i j = cv2 p q i j) : Vl n m k l t = l * (m * (Pv n m k l p 3 3 * Pv n m k l q 3 3)) := by
  rw [Vl_six fun i j c => by rw [h, cv2_out hp hq c], Pv_cv2 hp hq h]
theorem Vl_exch {n m k l : Int} {p t : List (List Int)} (h : ∀ i j, co t i j = co p j i) : Vl k l n m t = Vl n m k l p := by
  unfold Vl Pv Rv
  have a : ∀ F : Nat → Nat → Int, ∀ c : Nat → Int, (S 8 fun i => (S 8 fun j => F i j) * c i) = S 8 fun i => S 8 fun j => F i j * c i := fun F c => S_ext _ fun i _ => by
    rw [Int.mul_comm, ← S_mul]
    exact S_ext _ fun j _ => Int.mul_comm _ _
  show (S 8 fun i => (S 8 fun j => co t i j * (k ^ j * l ^ (7 - j))) * (n ^ i * m ^ (7 - i))) = S 8 fun i => (S 8 fun j => co p i j * (n ^ j * m ^ (7 - j))) * (k ^ i * l ^ (7 - i))
  rw [a, a, S_comm]
  refine S_ext _ fun i _ => S_ext _ fun j _ => ?_
  rw [h]
  grind
/-! lowest terms -/
theorem lo_scale {a b N D N' D' : Int} (h : Lo a b N D) (d : D ≠ 0) (e : N * D' = N' * D) : Lo a b N' D' := by
  obtain ⟨h1, h2, h3⟩ := h
  refine ⟨h1, h2, Int.eq_of_mul_eq_mul_right d ?_⟩
  have : a * D * D' = N * D' * b := by rw [h3]; grind
  rw [e] at this
  grind
theorem lo_sum {a b c d N M D x y : Int} (h1 : Lo a b N D) (h2 : Lo c d M D) (d0 : D ≠ 0) (h : Lo x y (a * d + c * b) (b * d)) : Lo x y (N + M) D := by
  obtain ⟨b0, _, e1⟩ := h1
  obtain ⟨c0, _, e2⟩ := h2
  refine lo_scale h (Int.ne_of_gt (Int.mul_pos b0 c0)) ?_
  have : (a * d + c * b) * D = a * D * d + c * D * b := by grind
  rw [this, e1, e2]
  grind
theorem lo_prod {a b c d N M D E x y : Int} (h1 : Lo a b N D) (h2 : Lo c d M E) (h : Lo x y (a * c) (b * d)) : Lo x y (N * M) (D * E) := by
  obtain ⟨b0, _, e1⟩ := h1
  obtain ⟨c0, _, e2⟩ := h2
  refine lo_scale h (Int.ne_of_gt (Int.mul_pos b0 c0)) ?_
  have : a * c * (D * E) = (a * D) * (c * E) := by grind
  rw [this, e1, e2]
  grind
theorem lo_uniq {a b c d N D : Int} (h1 : Lo a b N D) (h2 : Lo c d N D) (d0 : 0 < D) : a = c ∧ b = d := by
  have s1 := lo_share h1 d0
  have s2 := lo_share h2 d0
  have g0 : (Nat.gcd N.natAbs D.natAbs : Int) ≠ 0 := by
    have : 0 < Nat.gcd N.natAbs D.natAbs := Nat.gcd_pos_of_pos_right _ (by omega)
    omega
  exact ⟨Int.eq_of_mul_eq_mul_right g0 (by rw [s1.2, s2.2]), Int.eq_of_mul_eq_mul_right g0 (by rw [s1.1, s2.1])⟩
theorem lo_num {a b N D : Int} (h : Lo a b N D) (d0 : 0 < D) : a.natAbs ≤ N.natAbs := by
  have s := lo_share h d0
  have g0 : 0 < Nat.gcd N.natAbs D.natAbs := Nat.gcd_pos_of_pos_right _ (by omega)
  have e := congrArg Int.natAbs s.2
  rw [Int.natAbs_mul, Int.natAbs_natCast] at e
  rw [← e]
  exact Nat.le_mul_of_pos_right _ g0
end K22

set_option Elab.async false
set_option linter.all false
set_option maxRecDepth 100000
set_option maxHeartbeats 4000000
local macro_rules | `(tactic| walk_at "rd") => `(tactic| dsimp only [Evl.tCut, L2.tSeq, L2.tNext, L2.tRet, L2.tRetN, L2.tAsg, L2.gName, L2.tIfS, L2.tDrop, L2.tCons, L2.tNil, L2.tC, L2.tVar, L2.tCB, L2.tAndV, L2.tOrV, L2.tNotV, L2.tB, L2.tTest, L2.tOp, L2.tUn, L2.tNot, L2.tAnd, L2.tOr, L2.tIf, L2.tCall, L2.tTup, L2.tLst, L2.tNotT, L2.tYes, L2.gTup, L2.gCons, L2.gNil, L2.gSub, L2.tBM0, L2.tBM, L2.tWhile, L2.tFor, L2.iRng1, L2.iRng2, L2.tAugS, Tw.iEnumT, L2.tCKw, L2.tAug, L2.ipI, RT.iRevA, L2.tPar, L2.tPar3, L2.tSl, L2.tNoPart, L2.tPart, Tw.tRevT])
namespace K22
open PySem PySem.Spec PyProof.Rows L2 Tw
/-- not wide -/
def Wd (b : Nat) (i : Int) : Prop := i.natAbs < 2 ^ b
theorem Wd.up {a b : Nat} {i : Int} (h : Wd a i) (l : a ≤ b) : Wd b i := Nat.lt_of_lt_of_le h (Nat.pow_le_pow_right (by decide) l)
theorem Wd.mul {a b : Nat} {i j : Int} (h : Wd a i) (k : Wd b j) : Wd (a + b) (i * j) := wide_lt h k
theorem Wd.of {b : Nat} {i j : Int} (h : Wd b j) (l : i.natAbs ≤ j.natAbs) : Wd b i := Nat.lt_of_le_of_lt l h
theorem Wd.cm {a b : Nat} {i j : Int} (h : Wd a i) (k : Wd b j) (h0 : 0 < a) (h1 : 0 < b) (l : a + b ≤ 1000000) : CMulW i j := wide_mul h k h0 h1 l
def spLeanW : Sp := fun vs H Q _ => ∃ i j : Int, vs = [.int i, .int j] ∧ 0 < j ∧ Wd 800 j ∧ ∀ v a b H', Same H H' → Pr H' v a b → Lo a b i j → Q v H'
def spAddW : Sp := fun vs H Q _ => ∃ u v a b c d, vs = [u, v] ∧ Pr H u a b ∧ Pr H v c d ∧ 0 < b ∧ 0 < d ∧ Wd 400 a ∧ Wd 400 b ∧ Wd 400 c ∧ Wd 400 d ∧ ∀ z x y H', Same H H' → Pr H' z x y → Lo x y (a * d + c * b) (b * d) → Q z H'
def spMulW : Sp := fun vs H Q _ => ∃ u v a b c d, vs = [u, v] ∧ Pr H u a b ∧ Pr H v c d ∧ 0 < b ∧ 0 < d ∧ Wd 400 a ∧ Wd 400 b ∧ Wd 400 c ∧ Wd 400 d ∧ ∀ z x y H', Same H H' → Pr H' z x y → Lo x y (a * c) (b * d) → Q z H'
section
variable {P : Program} {w : World} {K : PySem.W.Frag} {mg : Str → Option Value} {base : Heap}
theorem gcd_cdiv {i j : Int} (j0 : 0 < j) (h : Wd 800 j) (x : Int) : CDivW x (Nat.gcd i.natAbs j.natAbs : Nat) := by
  have g0 : 0 < Nat.gcd i.natAbs j.natAbs := Nat.gcd_pos_of_pos_right _ (by omega)
  have g1 : Nat.gcd i.natAbs j.natAbs ≤ j.natAbs := Nat.gcd_le_right _ (by omega)
  exact wide_div (b := 800) (by omega) (Nat.lt_of_le_of_lt (by rw [Int.natAbs_natCast]; exact g1) h) (by decide) (by decide)
theorem ok_leanW (D : Def K mg "_law_lean" sLean ["_law_top", "_law_low"]) (c1 : Cal P w K mg base "_law_common" 1 ["_law_one", "_law_two"] spCommon) : Cal P w K mg base "_law_lean" 2 ["_law_top", "_law_low"] spLeanW := by
  refine D.ok scLean (fun vs H Q E h => ?_) (fun f cdv A out s H vs Q E hr h => ?_)
  · obtain ⟨i, j, rfl, _⟩ := h; rfl
  obtain ⟨i, j, rfl, j0, j1, q⟩ := h
  refine ⟨_, pss_cons (ps_set (i := 2) scLean.nd rfl (Or.inl rfl) (pe_ifExp (pt_cmpR op_gt (pv 1) pe_int (nomark _)) (pe_cal c1 hr (Nat.le_refl 1) (by rfl) (pa_cons (pv 0) (pa_cons (pv 1) pa_nil)))
      (pe_op op_sub pe_int (pe_cal c1 hr (Nat.le_refl 1) (by rfl) (pa_cons (pv 0) (pa_cons (pv 1) pa_nil))))))
    (pss_one (ps_ret (pe_tup (pa_cons (pe_op op_fdivW (pv 0) (pv 2)) (pa_cons (pe_op op_fdivW (pv 1) (pv 2)) pa_nil))))), ?_⟩
  walk_at "rd"
  refine ⟨.int j, rfl, j, 0, rfl, rfl, _, rfl, ite2 (fun c => ?_) (fun c => absurd (decide_eq_true j0) c)⟩
  refine ⟨.int i, rfl, .int j, rfl, i, j, rfl, fun H1 s1 => ?_⟩
  have dw := gcd_cdiv (i := i) j0 j1
  refine ⟨.int i, rfl, _, rfl, i, _, rfl, rfl, dw _, .int j, rfl, _, rfl, j, _, rfl, rfl, dw _, sz (by simp), fun t nt => ?_⟩
  exact q _ _ _ _ (s1.trans (same_new nt)) ⟨t, rfl, upd_same⟩ (lo_lean j0)
theorem scFracOf : FnScope ["n", "m", "shared"] ["n", "m"] (defScope sFracOf) := ⟨rfl, rfl, rfl, by decide +kernel, rfl, by decide +kernel, by decide +kernel⟩
theorem ok_fracof (D : Def K mg "fraction_of" sFracOf ["n", "m"]) (nb : Nb mg) : Cal P w K mg base "fraction_of" 1 ["n", "m"] spLeanW := by
  refine D.ok scFracOf (fun vs H Q E h => ?_) (fun f cdv A out s H vs Q E hr h => ?_)
  · obtain ⟨i, j, rfl, _⟩ := h; rfl
  obtain ⟨i, j, rfl, j0, j1, q⟩ := h
  refine ⟨_, pss_cons (ps_set (i := 2) scFracOf.nd rfl (Or.inl rfl) (pe_callBfun cr_gcd (by rfl) nb.gc (pa_cons (pv 0) (pa_cons (pv 1) pa_nil))))
    (pss_one (ps_ret (pe_tup (pa_cons (pe_op op_fdivW (pv 0) (pv 2)) (pa_cons (pe_op op_fdivW (pv 1) (pv 2)) pa_nil))))), ?_⟩
  walk_at "rd"
  have dw := gcd_cdiv (i := i) j0 j1
  refine ⟨.int i, rfl, .int j, rfl, i, j, rfl, .int i, rfl, _, rfl, i, _, rfl, rfl, dw _, .int j, rfl, _, rfl, j, _, rfl, rfl, dw _, sz (by simp), fun t nt => ?_⟩
  exact q _ _ _ _ (same_new nt) ⟨t, rfl, upd_same⟩ (lo_lean j0)
theorem ok_addW (D : Def K mg "_law_add" sAdd ["_law_one", "_law_two"]) (c1 : Cal P w K mg base "_law_lean" 2 ["_law_top", "_law_low"] spLeanW) : Cal P w K mg base "_law_add" 3 ["_law_one", "_law_two"] spAddW := by
  refine D.ok scAdd (fun vs H Q E h => ?_) (fun f cdv A out s H vs Q E hr h => ?_)
  · obtain ⟨u, v, a, b, c, d, rfl, _⟩ := h; rfl
  obtain ⟨u, v, a, b, c, d, rfl, hu, hv, b0, d0, wa, wb, wc, wd, q⟩ := h
  refine ⟨_, pss_one (ps_ret (pe_cal c1 hr (by decide) (by rfl) (pa_cons (pe_op op_add (pe_op op_mulW (pe_ix ix_tup (pv 0) pe_int (fun _ _ => rfl)) (pe_ix ix_tup (pv 1) pe_int (fun _ _ => rfl)))
      (pe_op op_mulW (pe_ix ix_tup (pv 1) pe_int (fun _ _ => rfl)) (pe_ix ix_tup (pv 0) pe_int (fun _ _ => rfl))))
    (pa_cons (pe_op op_mulW (pe_ix ix_tup (pv 0) pe_int (fun _ _ => rfl)) (pe_ix ix_tup (pv 1) pe_int (fun _ _ => rfl))) pa_nil)))), ?_⟩
  walk_at "rd"
  refine ⟨u, rfl, hu.ix0 ⟨v, rfl, hv.ix1 ⟨a, d, rfl, rfl, (by exact wa.cm wd (by decide) (by decide) (by decide)), v, rfl, hv.ix0 ⟨u, rfl, hu.ix1 ⟨c, b, rfl, rfl, (by exact wc.cm wb (by decide) (by decide) (by decide)), _, _, rfl, rfl, u, rfl, hu.ix1 ⟨v, rfl, hv.ix1 ⟨b, d, rfl, rfl, (by exact wb.cm wd (by decide) (by decide) (by decide)), ?_⟩⟩⟩⟩⟩⟩⟩
  exact ⟨_, _, rfl, Int.mul_pos b0 d0, wb.mul wd, fun z x y H' s1 p1 l1 => q z x y H' s1 p1 l1⟩
theorem ok_mulW (D : Def K mg "_law_mul" sMul ["_law_one", "_law_two"]) (c1 : Cal P w K mg base "_law_lean" 2 ["_law_top", "_law_low"] spLeanW) : Cal P w K mg base "_law_mul" 3 ["_law_one", "_law_two"] spMulW := by
  refine D.ok scMul (fun vs H Q E h => ?_) (fun f cdv A out s H vs Q E hr h => ?_)
  · obtain ⟨u, v, a, b, c, d, rfl, _⟩ := h; rfl
  obtain ⟨u, v, a, b, c, d, rfl, hu, hv, b0, d0, wa, wb, wc, wd, q⟩ := h
  refine ⟨_, pss_one (ps_ret (pe_cal c1 hr (by decide) (by rfl) (pa_cons (pe_op op_mulW (pe_ix ix_tup (pv 0) pe_int (fun _ _ => rfl)) (pe_ix ix_tup (pv 1) pe_int (fun _ _ => rfl)))
    (pa_cons (pe_op op_mulW (pe_ix ix_tup (pv 0) pe_int (fun _ _ => rfl)) (pe_ix ix_tup (pv 1) pe_int (fun _ _ => rfl))) pa_nil)))), ?_⟩
  walk_at "rd"
  refine ⟨u, rfl, hu.ix0 ⟨v, rfl, hv.ix0 ⟨a, c, rfl, rfl, (by exact wa.cm wc (by decide) (by decide) (by decide)), u, rfl, hu.ix1 ⟨v, rfl, hv.ix1 ⟨b, d, rfl, rfl, (by exact wb.cm wd (by decide) (by decide) (by decide)), ?_⟩⟩⟩⟩⟩
  exact ⟨_, _, rfl, Int.mul_pos b0 d0, wb.mul wd, fun z x y H' s1 p1 l1 => q z x y H' s1 p1 l1⟩
theorem scFSum : FnScope ["one", "other"] ["one", "other"] (defScope sFSum) := ⟨rfl, rfl, rfl, by decide +kernel, rfl, by decide +kernel, by decide +kernel⟩
theorem ok_fsum (D : Def K mg "fraction_sum" sFSum ["one", "other"]) (c1 : Cal P w K mg base "fraction_of" 1 ["n", "m"] spLeanW) : Cal P w K mg base "fraction_sum" 2 ["one", "other"] spAddW := by
  refine D.ok scFSum (fun vs H Q E h => ?_) (fun f cdv A out s H vs Q E hr h => ?_)
  · obtain ⟨u, v, a, b, c, d, rfl, _⟩ := h; rfl
  obtain ⟨u, v, a, b, c, d, rfl, hu, hv, b0, d0, wa, wb, wc, wd, q⟩ := h
  refine ⟨_, pss_one (ps_ret (pe_cal c1 hr (by decide) (by rfl) (pa_cons (pe_op op_add (pe_op op_mulW (pe_ix ix_tup (pv 0) pe_int (fun _ _ => rfl)) (pe_ix ix_tup (pv 1) pe_int (fun _ _ => rfl)))
      (pe_op op_mulW (pe_ix ix_tup (pv 1) pe_int (fun _ _ => rfl)) (pe_ix ix_tup (pv 0) pe_int (fun _ _ => rfl))))
    (pa_cons (pe_op op_mulW (pe_ix ix_tup (pv 0) pe_int (fun _ _ => rfl)) (pe_ix ix_tup (pv 1) pe_int (fun _ _ => rfl))) pa_nil)))), ?_⟩
  walk_at "rd"
  refine ⟨u, rfl, hu.ix0 ⟨v, rfl, hv.ix1 ⟨a, d, rfl, rfl, (by exact wa.cm wd (by decide) (by decide) (by decide)), v, rfl, hv.ix0 ⟨u, rfl, hu.ix1 ⟨c, b, rfl, rfl, (by exact wc.cm wb (by decide) (by decide) (by decide)), _, _, rfl, rfl, u, rfl, hu.ix1 ⟨v, rfl, hv.ix1 ⟨b, d, rfl, rfl, (by exact wb.cm wd (by decide) (by decide) (by decide)), ?_⟩⟩⟩⟩⟩⟩⟩
  exact ⟨_, _, rfl, Int.mul_pos b0 d0, wb.mul wd, fun z x y H' s1 p1 l1 => q z x y H' s1 p1 l1⟩
theorem scFProd : FnScope ["one", "other"] ["one", "other"] (defScope sFProd) := ⟨rfl, rfl, rfl, by decide +kernel, rfl, by decide +kernel, by decide +kernel⟩
theorem ok_fprod (D : Def K mg "fraction_product" sFProd ["one", "other"]) (c1 : Cal P w K mg base "fraction_of" 1 ["n", "m"] spLeanW) : Cal P w K mg base "fraction_product" 2 ["one", "other"] spMulW := by
  refine D.ok scFProd (fun vs H Q E h => ?_) (fun f cdv A out s H vs Q E hr h => ?_)
  · obtain ⟨u, v, a, b, c, d, rfl, _⟩ := h; rfl
  obtain ⟨u, v, a, b, c, d, rfl, hu, hv, b0, d0, wa, wb, wc, wd, q⟩ := h
  refine ⟨_, pss_one (ps_ret (pe_cal c1 hr (by decide) (by rfl) (pa_cons (pe_op op_mulW (pe_ix ix_tup (pv 0) pe_int (fun _ _ => rfl)) (pe_ix ix_tup (pv 1) pe_int (fun _ _ => rfl)))
    (pa_cons (pe_op op_mulW (pe_ix ix_tup (pv 0) pe_int (fun _ _ => rfl)) (pe_ix ix_tup (pv 1) pe_int (fun _ _ => rfl))) pa_nil)))), ?_⟩
  walk_at "rd"
  refine ⟨u, rfl, hu.ix0 ⟨v, rfl, hv.ix0 ⟨a, c, rfl, rfl, (by exact wa.cm wc (by decide) (by decide) (by decide)), u, rfl, hu.ix1 ⟨v, rfl, hv.ix1 ⟨b, d, rfl, rfl, (by exact wb.cm wd (by decide) (by decide) (by decide)), ?_⟩⟩⟩⟩⟩
  exact ⟨_, _, rfl, Int.mul_pos b0 d0, wb.mul wd, fun z x y H' s1 p1 l1 => q z x y H' s1 p1 l1⟩
end
end K22

set_option Elab.async false
set_option linter.all false
set_option maxRecDepth 100000
set_option maxHeartbeats 4000000
local macro_rules | `(tactic| walk_at "rd") => `(tactic| dsimp only [Evl.tCut, L2.tSeq, L2.tNext, L2.tRet, L2.tRetN, L2.tAsg, L2.gName, L2.tIfS, L2.tDrop, L2.tCons, L2.tNil, L2.tC, L2.tVar, L2.tCB, L2.tAndV, L2.tOrV, L2.tNotV, L2.tB, L2.tTest, L2.tOp, L2.tUn, L2.tNot, L2.tAnd, L2.tOr, L2.tIf, L2.tCall, L2.tTup, L2.tLst, L2.tNotT, L2.tYes, L2.gTup, L2.gCons, L2.gNil, L2.gSub, L2.tBM0, L2.tBM, L2.tWhile, L2.tFor, L2.iRng1, L2.iRng2, L2.tAugS, Tw.iEnumT, L2.tCKw, L2.tAug, L2.ipI, RT.iRevA, L2.tPar, L2.tPar3, L2.tSl, L2.tNoPart, L2.tPart, Tw.tRevT])
namespace K22
open PySem PySem.Spec PyProof.Rows L2 Tw
def Nw : Nat := 2 ^ 64 * 20 ^ 10 * 7 ^ 10
theorem wide_row {n m : Int} {r : List Int} (s : Sp1 n m) (hl : r.length ≤ 8) (h : ∀ c ∈ r, c.natAbs ≤ 2 ^ 64) : (Rv n m (g r) 7).natAbs ≤ Nw := by
  rw [← Rv_T r 7 (by omega)]
  obtain ⟨s1, s2, s3, _⟩ := s
  exact num_le (L := 8) s1 (by omega) (by decide) (by omega) h
theorem horn_wd {k l : Int} {ws : List Int} (s : Sp1 k l) (hl : ws.length ≤ 8) (h : ∀ w ∈ ws, w.natAbs ≤ Nw) : Wd 200 (T k l ws * l) := by
  obtain ⟨s1, s2, s3, _⟩ := s
  have t := T_le (B := Nw) s1 (show l.natAbs ≤ 7 by omega) ws h
  unfold Wd
  rw [Int.natAbs_mul]
  refine Nat.lt_of_le_of_lt (Nat.mul_le_mul (Nat.le_trans t (Nat.mul_le_mul_left _ (Nat.pow_le_pow_right (by decide) hl))) (show l.natAbs ≤ 7 by omega)) ?_
  unfold Nw
  decide
theorem den_wd {E k l : Int} (E0 : 0 < E) (E1 : E ≤ 7 ^ 7) (s : Sp1 k l) {i : Nat} (hi : i ≤ 8) : 0 < E * l ^ i ∧ E * l ^ i ≤ 7 ^ 7 * 7 ^ 8 := by
  have p0 := pow_pos' s.2.1 i
  have p1 : l ^ i ≤ 7 ^ 8 := Int.le_trans (pow_le7 s.2.1 s.2.2.1 i) (pow_mono7 hi)
  exact ⟨Int.mul_pos E0 p0, Int.mul_le_mul E1 p1 (by omega) (by decide)⟩
theorem wd_le {b : Int} {c : Nat} (h0 : 0 < b) (h : b ≤ (c : Int)) (k : Nat) (hk : c < 2 ^ k) : Wd k b := by
  unfold Wd
  omega
/-- a fraction that is w / E -/
def FrE (E : Int) (H : Hp) (v : V) (w : Int) : Prop := ∃ a b, Pr H v a b ∧ Lo a b w E
theorem stable_fr (E : Int) : Stable (FrE E) := fun _ _ _ _ k ⟨a, b, h1, h2⟩ => ⟨a, b, h1.kt k, h2⟩
theorem horn_step {k l E a b x y c d w x2 y2 : Int} {ws : List Int} (l0 : 0 < l) (E0 : 0 < E) (h : Lo a b (T k l ws * l) (E * l ^ ws.length)) (h1 : Lo x y (a * k) (b * l)) (h2 : Lo c d w E) (h3 : Lo x2 y2 (x * d + c * y) (y * d)) :
    Lo x2 y2 (T k l (w :: ws) * l) (E * l ^ (w :: ws).length) := by
  have e1 := lo_mul h h1
  have p0 := pow_pos' l0 ws.length
  have e2 : Lo c d (w * (l ^ ws.length * l)) (E * l ^ ws.length * l) := lo_scale h2 (by omega) (by grind)
  have e3 := lo_sum e1 e2 (Int.ne_of_gt (Int.mul_pos (Int.mul_pos E0 p0) l0)) h3
  rw [List.length_cons, Int.pow_succ, T]
  have f1 : (T k l ws * k + w * l ^ ws.length) * l = T k l ws * l * k + w * (l ^ ws.length * l) := by grind
  have f2 : E * (l ^ ws.length * l) = E * l ^ ws.length * l := by grind
  rw [f1, f2]
  exact e3
theorem horn_end {n m k l a b : Int} {p : List (List Int)} (m0 : 0 < m) (l0 : 0 < l) (hp : p.length ≤ 8) (h : Lo a b (T k l (p.map fun r => Rv n m (g r) 7) * l) (m ^ 7 * l ^ p.length)) : Lo a b (Vl n m k l p) (m ^ 7 * l ^ 7) := by
  have e : Vl n m k l p = T k l (p.map fun r => Rv n m (g r) 7) * l ^ (8 - p.length) := by
    have := Rv_T (n := k) (m := l) (p.map fun r => Rv n m (g r) 7) 7 (by rw [List.length_map]; omega)
    rw [List.length_map] at this
    rw [show 8 - p.length = 7 + 1 - p.length from rfl, this]
    unfold Vl Pv
    refine Rv_ext _ fun i => ?_
    rcases Nat.lt_or_ge i p.length with c | c
    · rw [g_some (by rw [List.length_map]; exact c), List.getElem_map]
      exact Rv_ext _ fun j => by unfold co; rw [rw_some c]
    · rw [g_none (by rw [List.length_map]; exact c)]
      exact Rv_zero _ fun j => by unfold co; rw [rw_none c]; exact g_none (Nat.zero_le _)
  rw [e]
  have pm := pow_pos' m0 7
  have pl := pow_pos' l0 p.length
  refine lo_scale h (Int.ne_of_gt (Int.mul_pos pm pl)) ?_
  have e2 : l ^ 7 * l = l ^ (8 - p.length) * l ^ p.length := by
    rw [← Int.pow_succ, ← Int.pow_add]
    congr 1
    omega
  have : T k l (p.map fun r => Rv n m (g r) 7) * l * (m ^ 7 * l ^ 7) = T k l (p.map fun r => Rv n m (g r) 7) * m ^ 7 * (l ^ 7 * l) := by grind
  rw [this, e2]
  grind
def spRVal : Sp := fun vs H Q _ => ∃ u v r n m, vs = [u, v] ∧ Ro H u r ∧ Pr H v n m ∧ Sp1 n m ∧ r.length ≤ 8 ∧ ∀ z H', Same H H' → FrE (m ^ 7) H' z (Rv n m (g r) 7) → Q z H'
def spPVal : Sp := fun vs H Q _ => ∃ u x y p b n m k l, vs = [u, x, y] ∧ Po H u p ∧ Pr H x n m ∧ Sp1 n m ∧ Pr H y k l ∧ Sp1 k l ∧ Bd 8 b p ∧ b ≤ 2 ^ 64 ∧ ∀ z H', Same H H' → FrE (m ^ 7 * l ^ 7) H' z (Vl n m k l p) → Q z H'
def spApVal : Sp := fun vs H Q _ => ∃ a u x y p b n m k l, vs = [u, x, y] ∧ We a H ∧ Po H u p ∧ okP p ∧ Pr H x n m ∧ Sp1 n m ∧ Pr H y k l ∧ Sp1 k l ∧ Bd 8 b p ∧ b ≤ 2 ^ 64 ∧ ∀ z H', Same H H' → FrE (m ^ 7 * l ^ 7) H' z (Vl n m k l p) → Q z H'
def spAtAll : Sp := fun vs H Q _ => ∃ p v xs ws E k l, vs = [.ref p, v] ∧ H p = some (.lst xs) ∧ RelA (FrE E) H xs ws ∧ ws.length ≤ 8 ∧ (∀ w ∈ ws, w.natAbs ≤ Nw) ∧ 0 < E ∧ E ≤ 7 ^ 7 ∧ Pr H v k l ∧ Sp1 k l ∧ ∀ z H', Same H H' → FrE (E * l ^ ws.length) H' z (T k l ws * l) → Q z H'
section
variable {P : Program} {w : World} {K : PySem.W.Frag} {mg : Str → Option Value} {base : Heap}
theorem scRVal : FnScope ["row", "fraction"] ["row", "fraction"] (defScope sRValue) := ⟨rfl, rfl, rfl, by decide +kernel, rfl, by decide +kernel, by decide +kernel⟩
theorem ok_rval (D : Def K mg "row_value" sRValue ["row", "fraction"]) (nb : Nb mg) (c1 : Cal P w K mg base "fraction_of" 1 ["n", "m"] spLeanW) (c2 : Cal P w K mg base "scaled_value" 1 ["row", "n", "m"] spScaled) (c3 : Cal P w K mg base "power" 1 ["base", "many"] spPower) : Cal P w K mg base "row_value" 2 ["row", "fraction"] spRVal := by
  refine D.ok scRVal (fun vs H Q E h => ?_) (fun f cdv A out s H vs Q E hr h => ?_)
  · obtain ⟨u, v, r, n, m, rfl, _⟩ := h; rfl
  obtain ⟨u, v, r, n, m, rfl, hu, hv, sp, hl, q⟩ := h
  refine ⟨_, pss_cons (ps_if (pt_not (pt_truth (pv 0) (fun _ => rfl))) (pss_one (ps_ret (pe_tup (pa_cons pe_int (pa_cons pe_int pa_nil))))) pss_nil)
    (pss_one (ps_ret (pe_cal c1 hr (by decide) (by rfl) (pa_cons (pe_cal c2 hr (by decide) (by rfl) (pa_cons (pv 0) (pa_cons (pe_ix ix_tup (pv 1) pe_int (fun _ _ => rfl)) (pa_cons (pe_ix ix_tup (pv 1) pe_int (fun _ _ => rfl)) pa_nil))))
       (pa_cons (pe_cal c3 hr (by decide) (by rfl) (pa_cons (pe_ix ix_tup (pv 1) pe_int (fun _ _ => rfl)) (pa_cons (pe_op op_sub (pe_callB (id := "len") (r := rLn K) call_len_seq (by rfl) nb.len PySem.boot_len (pa_cons (pv 0) pa_nil)) pe_int) pa_nil))) pa_nil))))), ?_⟩
  walk_at "rd"
  obtain ⟨pu, rfl, eu⟩ := hu
  have m0 := sp.2.1
  have pm := pow_pos' m0 7
  have emp : (r.map V.int).isEmpty = r.isEmpty := by cases r <;> rfl
  refine ⟨.ref pu, rfl, _, .inr (.inl ⟨_, SqT.of eu, rfl⟩), ?_⟩
  rw [emp]
  cases er : r.isEmpty with
  | true =>
    have e0 : r = [] := by simpa using er
    refine iteT ⟨sz (by simp), fun t nt => q _ _ (same_new nt) ⟨0, 1, ⟨t, rfl, upd_same⟩, ?_⟩⟩
    rw [e0, Rv_zero 7 fun i => g_none (Nat.zero_le _)]
    exact ⟨by decide, by decide, by simp⟩
  | false =>
    have nr : r ≠ [] := fun z => by rw [z] at er; cases er
    have l0 : 0 < r.length := List.length_pos_iff.mpr nr
    refine iteF ⟨.ref pu, rfl, v, rfl, hv.ix0 ⟨v, rfl, hv.ix1 ⟨.ref pu, r, n, m, rfl, ⟨pu, rfl, eu⟩, sp.1, m0, sp.2.2.1, hl, fun H1 s1 => ?_⟩⟩⟩
    have hv1 := hv.kt (Kt.of s1)
    refine ⟨v, rfl, hv1.ix1 ⟨.ref pu, rfl, pu, _, rfl, .inr (SqT.of (s1 _ _ eu)), _, _, rfl, rfl, m, r.length - 1, ?_, m0, sp.2.2.1, by omega, fun H2 s2 => ?_⟩⟩
    · rw [List.length_map]
      show [V.int m, V.int ((r.length : Int) - 1)] = [V.int m, V.int ((r.length - 1 : Nat) : Int)]
      rw [show (r.length : Int) - 1 = ((r.length - 1 : Nat) : Int) from by omega]
    have p1 := pow_pos' m0 (r.length - 1)
    have p2 : m ^ (r.length - 1) ≤ 7 ^ 8 := Int.le_trans (pow_le7 m0 sp.2.2.1 _) (pow_mono7 (by omega))
    refine ⟨_, _, rfl, p1, wd_le (c := 7 ^ 8) p1 p2 800 (by decide), fun z a b H3 s3 h3 l3 => q z H3 (s1.trans (s2.trans s3)) ⟨a, b, h3, lo_scale l3 (by omega) ?_⟩⟩
    rw [← Rv_T r 7 (by omega)]
    have e : m ^ 7 = m ^ (7 + 1 - r.length) * m ^ (r.length - 1) := by
      rw [← Int.pow_add]
      congr 1
      omega
    rw [e]
    grind
theorem scPVal : FnScope ["poly", "x", "y", "found", "row"] ["poly", "x", "y"] (defScope sPValue) := ⟨rfl, rfl, rfl, by decide +kernel, rfl, by decide +kernel, by decide +kernel⟩
theorem ok_pval (D : Def K mg "poly_value" sPValue ["poly", "x", "y"]) (nb : Nb mg) (c1 : Cal P w K mg base "fraction_sum" 2 ["one", "other"] spAddW) (c2 : Cal P w K mg base "fraction_product" 2 ["one", "other"] spMulW) (c3 : Cal P w K mg base "row_value" 2 ["row", "fraction"] spRVal) : Cal P w K mg base "poly_value" 3 ["poly", "x", "y"] spPVal := by
  refine D.ok scPVal (fun vs H Q E h => ?_) (fun f cdv A out s H vs Q E hr h => ?_)
  · obtain ⟨u, x, y, p, b, n, m, k, l, rfl, _⟩ := h; rfl
  obtain ⟨u, x, y, p, b, n, m, k, l, rfl, hu, hx, sx, hy, sy, bp, bw, q⟩ := h
  refine ⟨_, pss_cons (ps_set (i := 3) scPVal.nd rfl (Or.inl rfl) (pe_tup (pa_cons pe_int (pa_cons pe_int pa_nil))))
    (pss_cons (ps_for PassesOwn.never rfl (RT.pi_revA (by rfl) nb.rev (pv 0)) (pg_name (i := 4) scPVal.nd rfl (Or.inl rfl))
      (pss_one (ps_set (i := 3) scPVal.nd rfl (Or.inl rfl) (pe_cal c1 hr (by decide) (by rfl) (pa_cons (pe_cal c2 hr (by decide) (by rfl) (pa_cons (pv 3) (pa_cons (pv 2) pa_nil))) (pa_cons (pe_cal c3 hr (by decide) (by rfl) (pa_cons (pv 4) (pa_cons (pv 1) pa_nil))) pa_nil))))))
    (pss_one (ps_ret (pv 3)))), ?_⟩
  walk_at "rd"
  refine ⟨sz (by simp), fun t0 nt0 => ?_⟩
  have s0 := same_new (o := .tup [.int 0, .int 1]) nt0
  have p0 : Pr (upd H t0 (.tup [.int 0, .int 1])) (.ref t0) 0 1 := ⟨t0, rfl, upd_same⟩
  generalize upd H t0 _ = H0 at s0 p0 ⊢
  obtain ⟨pu, xs, rfl, eu, hp⟩ := hu
  have lx : xs.length = p.length := hp.1
  have lp := bp.1
  have m0 := sx.2.1
  have l0 := sy.2.1
  have E0 := pow_pos' m0 7
  have E1 : m ^ 7 ≤ 7 ^ 7 := pow_le7 m0 sx.2.2.1 7
  have hws : ∀ w ∈ p.map fun r => Rv n m (g r) 7, w.natAbs ≤ Nw := fun w hw => by
    obtain ⟨r, hr, rfl⟩ := List.mem_map.mp hw
    exact wide_row sx (bp.2 r hr).1 fun c hc => Nat.le_trans ((bp.2 r hr).2 c hc) bw
  have lw : (p.map fun r => Rv n m (g r) 7).length = p.length := List.length_map _
  refine ⟨.ref pu, rfl, pu, xs, rfl, .inr ⟨SqT.of (s0 _ _ eu), for_rev (xs := xs) (fun i σ H' => ∃ (z : V) (x4 : Option V) (a b : Int), σ = [some (.ref pu), some x, some y, some z, x4] ∧ Same H H' ∧ Pr H' z a b ∧ Lo a b (T k l ((p.map fun r => Rv n m (g r) 7).drop (p.length - i)) * l) (m ^ 7 * l ^ ((p.map fun r => Rv n m (g r) 7).drop (p.length - i)).length)) ?_ ?_ ?_ ?_⟩⟩
  · refine ⟨.ref t0, none, 0, 1, rfl, s0, p0, ?_⟩
    rw [Nat.sub_zero, ← lw, List.drop_length]
    exact ⟨by decide, by decide, by simp [T]⟩
  · rintro i σ H1 hi ⟨z, x4, a, b, rfl, s1, _⟩
    exact SqT.of (s1 _ _ eu)
  · rintro i v σ H1 hi hv ⟨z, x4, a, b, rfl, s1, p1, l1⟩
    rw [lx] at hi hv
    obtain ⟨r, er, hr1⟩ := (hp.kt (Kt.of s1)).2 _ _ hv
    have hir : p.length - 1 - i < p.length := by omega
    have er' := (List.getElem?_eq_some_iff.mp er).2
    have dt := drop_top (r := p.map fun r => Rv n m (g r) 7) (k := i) (by rw [lw]; exact hi)
    simp only [lw, List.getElem_map, er'] at dt
    have ls : ((p.map fun r => Rv n m (g r) 7).drop (p.length - i)).length = i := by rw [List.length_drop, lw]; omega
    have hs : ∀ w ∈ (p.map fun r => Rv n m (g r) 7).drop (p.length - i), w.natAbs ≤ Nw := fun w hw => hws w (List.mem_of_mem_drop hw)
    rw [dt]
    clear dt
    generalize (p.map fun r => Rv n m (g r) 7).drop (p.length - i) = sfx at l1 ls hs ⊢
    obtain ⟨d0, d1⟩ := den_wd E0 E1 sy (i := sfx.length) (by omega)
    have bl := lo_le l1 d0
    have aw : Wd 200 a := (horn_wd sy (by omega) hs).of (lo_num l1 d0)
    have bw' : Wd 60 b := wd_le (c := 7 ^ 15) l1.1 (by omega) 60 (by decide)
    have b0 := l1.1
    have rl := (bp.2 r (List.mem_of_getElem? er)).1
    have rw8 := wide_row sx rl fun c hc => Nat.le_trans ((bp.2 r (List.mem_of_getElem? er)).2 c hc) bw
    have kw : Wd 10 k := by unfold Wd; have := sy.1; omega
    have lw' : Wd 10 l := by unfold Wd; have := sy.2.2.1; omega
    refine ⟨z, rfl, y, rfl, z, y, a, b, k, l, rfl, p1, hy.kt (Kt.of s1), b0, l0, aw.up (by decide), bw'.up (by decide), kw.up (by decide), lw'.up (by decide), fun z2 x3 y3 H2 s2 p2 l4 => ?_⟩
    have xw : Wd 210 x3 := (aw.mul kw).of (lo_num l4 (Int.mul_pos b0 l0))
    have yl := lo_le l4 (Int.mul_pos b0 l0)
    have yw : Wd 70 y3 := (bw'.mul lw').of (by have := l4.1; omega)
    refine ⟨v, rfl, x, rfl, v, x, r, n, m, rfl, hr1.kt (Kt.of s2), hx.kt (Kt.of (s1.trans s2)), sx, rl, fun z3 H3 s3 fr => ?_⟩
    obtain ⟨c, d, pc, lc⟩ := fr
    have cw : Wd 136 c := Nat.lt_of_le_of_lt (lo_num lc E0) (Nat.lt_of_le_of_lt rw8 (by decide))
    have dl := lo_le lc E0
    have dw : Wd 60 d := wd_le (c := 7 ^ 15) lc.1 (by omega) 60 (by decide)
    refine ⟨z2, z3, x3, y3, c, d, rfl, p2.kt (Kt.of s3), pc, l4.1, lc.1, xw.up (by decide), yw.up (by decide), cw.up (by decide), dw.up (by decide), fun z4 x2 y2 H4 s4 p4 l5 => ?_⟩
    exact ⟨z4, some v, x2, y2, rfl, s1.trans (s2.trans (s3.trans s4)), p4, horn_step l0 E0 l1 l4 lc l5⟩
  · rintro σ H1 ⟨z, x4, a, b, rfl, s1, p1, l1⟩
    refine ⟨z, rfl, q z H1 s1 ⟨a, b, p1, horn_end m0 l0 lp ?_⟩⟩
    rw [lx, Nat.sub_self, List.drop_zero, lw] at l1
    exact l1
end
end K22

set_option Elab.async false
set_option linter.all false
set_option maxRecDepth 100000
set_option maxHeartbeats 4000000
local macro_rules | `(tactic| walk_at "rd") => `(tactic| dsimp only [Evl.tCut, L2.tSeq, L2.tNext, L2.tRet, L2.tRetN, L2.tAsg, L2.gName, L2.tIfS, L2.tDrop, L2.tCons, L2.tNil, L2.tC, L2.tVar, L2.tCB, L2.tAndV, L2.tOrV, L2.tNotV, L2.tB, L2.tTest, L2.tOp, L2.tUn, L2.tNot, L2.tAnd, L2.tOr, L2.tIf, L2.tCall, L2.tTup, L2.tLst, L2.tNotT, L2.tYes, L2.gTup, L2.gCons, L2.gNil, L2.gSub, L2.tBM0, L2.tBM, L2.tWhile, L2.tFor, L2.iRng1, L2.iRng2, L2.tAugS, Tw.iEnumT, L2.tCKw, L2.tAug, L2.ipI, RT.iRevA, L2.tPar, L2.tPar3, L2.tSl, L2.tNoPart, L2.tPart, Tw.tRevT])
namespace K22
open PySem PySem.Spec PyProof.Rows L2 Tw
def spWorth : Sp := fun vs H Q _ => ∃ u x y p b n m k l, vs = [u, x, y] ∧ Po H u p ∧ Pr H x n m ∧ Sp1 n m ∧ Pr H y k l ∧ Sp1 k l ∧ Bd 8 b p ∧ b < 2 ^ 64 ∧ ∀ z H', Same H H' → FrE (m ^ 7 * l ^ 7) H' z (Vl n m k l p) → Q z H'
section
variable {P : Program} {w : World} {K : PySem.W.Frag} {mg : Str → Option Value} {base : Heap}
theorem scAtAll : FnScope ["_law_some", "_law_spot", "_law_made", "_law_k"] ["_law_some", "_law_spot"] (defScope sAtAll) := ⟨rfl, rfl, rfl, by decide +kernel, rfl, by decide +kernel, by decide +kernel⟩
theorem ok_atall (D : Def K mg "_law_at_all" sAtAll ["_law_some", "_law_spot"]) (nb : Nb mg) (c1 : Cal P w K mg base "_law_add" 3 ["_law_one", "_law_two"] spAddW) (c2 : Cal P w K mg base "_law_mul" 3 ["_law_one", "_law_two"] spMulW) : Cal P w K mg base "_law_at_all" 4 ["_law_some", "_law_spot"] spAtAll := by
  refine D.ok scAtAll (fun vs H Q E h => ?_) (fun f cdv A out s H vs Q E hr h => ?_)
  · obtain ⟨p, v, xs, ws, E, k, l, rfl, _⟩ := h; rfl
  obtain ⟨pu, v, xs, ws, E, k, l, rfl, eu, hd, hl, hws, E0, E1, hv, sy, q⟩ := h
  refine ⟨_, pss_cons (ps_set (i := 2) scAtAll.nd rfl (Or.inl rfl) (pe_tup (pa_cons pe_int (pa_cons pe_int pa_nil))))
    (pss_cons (ps_for PassesOwn.never rfl (pi_range1 (by rfl) nb.rng (pa_cons (pe_callB (id := "len") (r := rLn K) call_len_seq (by rfl) nb.len PySem.boot_len (pa_cons (pv 0) pa_nil)) pa_nil))
        (pg_name (i := 3) scAtAll.nd rfl (Or.inl rfl))
        (pss_one (ps_set (i := 2) scAtAll.nd rfl (Or.inl rfl) (pe_cal c1 hr (by decide) (by rfl) (pa_cons (pe_cal c2 hr (by decide) (by rfl) (pa_cons (pv 2) (pa_cons (pv 1) pa_nil)))
          (pa_cons (pe_ix ix_list (pv 0) (pe_op op_sub (pe_op op_sub (pe_callB (id := "len") (r := rLn K) call_len_seq (by rfl) nb.len PySem.boot_len (pa_cons (pv 0) pa_nil)) pe_int) (pv 3)) (fun _ _ => rfl)) pa_nil))))))
    (pss_one (ps_ret (pv 2)))), ?_⟩
  walk_at "rd"
  refine ⟨sz (by simp), fun t0 nt0 => ?_⟩
  have s0 := same_new (o := .tup [.int 0, .int 1]) nt0
  have p0 : Pr (upd H t0 (.tup [.int 0, .int 1])) (.ref t0) 0 1 := ⟨t0, rfl, upd_same⟩
  generalize upd H t0 _ = H0 at s0 p0 ⊢
  have lx : xs.length = ws.length := hd.1
  have l0 := sy.2.1
  refine ⟨.ref pu, rfl, pu, _, rfl, .inl (SqL.of (s0 _ _ eu)), (xs.length : Int), rfl, by omega, by omega, ?_⟩
  refine for_rng (lo := 0) (n := (xs.length : Int).toNat) (fun i σ H' => ∃ (z : V) (x3 : Option V) (a b : Int), σ = [some (.ref pu), some v, some z, x3] ∧ Same H H' ∧ Pr H' z a b ∧ Lo a b (T k l (ws.drop (ws.length - i)) * l) (E * l ^ (ws.drop (ws.length - i)).length)) ?_ ?_ ?_
  · exact ⟨.ref t0, none, 0, 1, rfl, s0, p0, by
      rw [Nat.sub_zero, List.drop_length]
      exact ⟨by decide, by decide, by simp [T]⟩⟩
  · rintro i σ H1 hi ⟨z, x3, a, b, rfl, s1, p1, l1⟩
    have hi : i < ws.length := by omega
    walk_at "rd"
    have ls : (ws.drop (ws.length - i)).length = i := by rw [List.length_drop]; omega
    have dt := drop_top hi
    have hs : ∀ w ∈ ws.drop (ws.length - i), w.natAbs ≤ Nw := fun w hw => hws w (List.mem_of_mem_drop hw)
    rw [dt]
    clear dt
    generalize ws.drop (ws.length - i) = sfx at l1 ls hs ⊢
    obtain ⟨d0, d1⟩ := den_wd E0 E1 sy (i := sfx.length) (by omega)
    have bl := lo_le l1 d0
    have aw : Wd 200 a := (horn_wd sy (by omega) hs).of (lo_num l1 d0)
    have bw' : Wd 60 b := wd_le (c := 7 ^ 15) l1.1 (by omega) 60 (by decide)
    have b0 := l1.1
    have kw : Wd 10 k := by unfold Wd; have := sy.1; omega
    have lw' : Wd 10 l := by unfold Wd; have := sy.2.2.1; omega
    refine ⟨z, rfl, v, rfl, z, v, a, b, k, l, rfl, p1, hv.kt (Kt.of s1), b0, l0, aw.up (by decide), bw'.up (by decide), kw.up (by decide), lw'.up (by decide), fun z2 x y H2 s2 p2 l4 => ?_⟩
    have xw : Wd 210 x := (aw.mul kw).of (lo_num l4 (Int.mul_pos b0 l0))
    have yl := lo_le l4 (Int.mul_pos b0 l0)
    have yw : Wd 70 y := (bw'.mul lw').of (by have := l4.1; omega)
    refine ⟨.ref pu, rfl, .ref pu, rfl, pu, _, rfl, .inl (SqL.of ((s1.trans s2) _ _ eu)), _, 1, rfl, rfl, .int (0 + (i : Int)), rfl, _, _, rfl, rfl, ?_⟩
    have ek : (xs.length : Int) - 1 - (0 + (i : Int)) = ((ws.length - 1 - i : Nat) : Int) := by omega
    walk_at "rd"
    rw [ek]
    have hix : ws.length - 1 - i < ws.length := by omega
    have gx := List.getElem?_eq_getElem (l := xs) (i := ws.length - 1 - i) (by omega)
    obtain ⟨w1, ew, c, d, pc, lc⟩ := (hd.kt (stable_fr E) (Kt.of (s1.trans s2))).2 _ _ gx
    rw [List.getElem?_eq_getElem hix] at ew
    cases ew
    have cw : Wd 136 c := Nat.lt_of_le_of_lt (lo_num lc E0) (Nat.lt_of_le_of_lt (hws _ (List.getElem_mem _)) (by decide))
    have dl := lo_le lc E0
    have dw : Wd 60 d := wd_le (c := 7 ^ 15) lc.1 (by omega) 60 (by decide)
    refine ⟨pu, _, _, _, rfl, rfl, SqL.of ((s1.trans s2) _ _ eu), atI_nat gx, z2, _, x, y, c, d, rfl, p2, pc, l4.1, lc.1, xw.up (by decide), yw.up (by decide), cw.up (by decide), dw.up (by decide), fun z3 x2 y2 H3 s3 p3 l5 => ?_⟩
    exact ⟨z3, some (.int (0 + (i : Int))), x2, y2, rfl, s1.trans (s2.trans s3), p3, horn_step l0 E0 l1 l4 lc l5⟩
  · rintro σ H1 ⟨z, x3, a, b, rfl, s1, p1, l1⟩
    refine ⟨z, rfl, q z H1 s1 ⟨a, b, p1, ?_⟩⟩
    have e : ws.length - (xs.length : Int).toNat = 0 := by omega
    rw [e, List.drop_zero] at l1
    exact l1
theorem scWorth : FnScope ["_law_some", "_law_here", "_law_there", "_law_row_here"] ["_law_some", "_law_here", "_law_there"] (defScope sWorth) := ⟨rfl, rfl, rfl, by decide +kernel, rfl, by decide +kernel, by decide +kernel⟩
theorem ok_worth (D : Def K mg "_law_worth" sWorth ["_law_some", "_law_here", "_law_there"]) (c1 : Cal P w K mg base "_law_at_all" 4 ["_law_some", "_law_spot"] spAtAll) (c2 : Cal P w K mg base "_law_at" 4 ["_law_row_here", "_law_spot"] spAt) : Cal P w K mg base "_law_worth" 5 ["_law_some", "_law_here", "_law_there"] spWorth := by
  refine D.ok scWorth (fun vs H Q E h => ?_) (fun f cdv A out s H vs Q E hr h => ?_)
  · obtain ⟨u, x, y, p, b, n, m, k, l, rfl, _⟩ := h; rfl
  obtain ⟨u, x, y, p, b, n, m, k, l, rfl, hu, hx, sx, hy, sy, bp, bw, q⟩ := h
  refine ⟨_, pss_one (ps_ret (pe_cal c1 hr (by decide) (by rfl) (pa_cons
      (pe_lc (own := [("_law_row_here", 3)]) (g := gName 3) (tt := tYes) rfl scWorth.nd (pi_tup (pv 0)) (blkOk_by (N := ["_law_some", "_law_here", "_law_there", "_law_row_here"]) (sc := defScope sWorth) (by decide +kernel))
        (fun _ _ _ _ _ => pg_name (i := 3) scWorth.nd rfl (Or.inl rfl)) (fun _ _ _ _ _ => pts_nil)
        (fun _ _ _ _ _ => pe_cal c2 hr (by decide) (by rfl) (pa_cons (pv 3) (pa_cons (pv 1) pa_nil)))) (pa_cons (pv 2) pa_nil)))), ?_⟩
  walk_at "rd"
  obtain ⟨pu, xs, rfl, eu, hp⟩ := hu
  have lp := bp.1
  have m0 := sx.2.1
  have l0 := sy.2.1
  refine lc_relT (S := Ro) (R := FrE (m ^ 7)) (g := fun r => Rv n m (g r) 7) (rs := p) (p := pu) (xs := xs) stable_ro (stable_fr _) rfl eu hp (by omega) (fun x => wipeJ _ _ _) (fun v r H1 hr1 s1 rv Z hZ => ?_) fun L ys H1 s1 nL eL ry => ?_
  · refine ⟨v, rfl, x, rfl, v, x, r, n, m, rfl, rv, hx.kt (Kt.of s1), sx, (bp.2 r hr1).1, fun c hc => Nat.lt_of_le_of_lt ((bp.2 r hr1).2 c hc) bw, fun z a b H2 s2 pz lz => hZ z H2 s2 ⟨a, b, pz, ?_⟩⟩
    have := lo_at (L := 8) m0 (bp.2 r hr1).1 lz
    rw [show Rv n m (g r) 7 = numAt n m 8 r from (Rv_T r 7 (bp.2 r hr1).1).symm]
    exact this
  · refine ⟨y, rfl, L, y, ys, _, m ^ 7, k, l, rfl, eL, ry, by rw [List.length_map]; exact lp, fun w hw => ?_, pow_pos' m0 7, pow_le7 m0 sx.2.2.1 7, hy.kt (Kt.of s1), sy, fun z H2 s2 hz => q z H2 (s1.trans s2) ?_⟩
    · obtain ⟨r, hr, rfl⟩ := List.mem_map.mp hw
      exact wide_row sx (bp.2 r hr).1 fun c hc => Nat.le_trans ((bp.2 r hr).2 c hc) (Nat.le_of_lt bw)
    · obtain ⟨a, b, hz, lz⟩ := hz
      rw [List.length_map] at lz
      exact ⟨a, b, hz, horn_end m0 l0 lp lz⟩
theorem scApVal : FnScope ["poly", "x", "y"] ["poly", "x", "y"] (defScope sApVal) := ⟨rfl, rfl, rfl, by decide +kernel, rfl, by decide +kernel, by decide +kernel⟩
theorem ok_apval (D : Def K mg "value_at" sApVal ["poly", "x", "y"]) (c1 : Cal P w K mg base "check_poly" 4 ["poly"] spChkP) (c2 : Cal P w K mg base "check_fraction" 4 ["fraction"] spChkF) (c3 : Cal P w K mg base "poly_value" 3 ["poly", "x", "y"] spPVal) : Cal P w K mg base "value_at" 5 ["poly", "x", "y"] spApVal := by
  refine D.ok scApVal (fun vs H Q E h => ?_) (fun f cdv A out s H vs Q E hr h => ?_)
  · obtain ⟨a, u, x, y, p, b, n, m, k, l, rfl, _⟩ := h; rfl
  obtain ⟨a, u, x, y, p, b, n, m, k, l, rfl, hw, hu, okp, hx, sx, hy, sy, bp, bw, q⟩ := h
  refine ⟨_, pss_cons (ps_expr (pe_cal c1 hr (by decide) (by rfl) (pa_cons (pv 0) pa_nil))) (pss_cons (ps_expr (pe_cal c2 hr (by decide) (by rfl) (pa_cons (pv 1) pa_nil))) (pss_cons (ps_expr (pe_cal c2 hr (by decide) (by rfl) (pa_cons (pv 2) pa_nil)))
    (pss_one (ps_ret (pe_cal c3 hr (by decide) (by rfl) (pa_cons (pv 0) (pa_cons (pv 1) (pa_cons (pv 2) pa_nil)))))))), ?_⟩
  walk_at "rd"
  refine ⟨u, rfl, a, u, p, b, rfl, hw, hu, okp, bp, fun _ H1 s1 => ⟨x, rfl, x, n, m, rfl, hx.kt (Kt.of s1), sx, fun _ H2 s2 => ⟨y, rfl, y, k, l, rfl, hy.kt (Kt.of (s1.trans s2)), sy, fun _ H3 s3 => ?_⟩⟩⟩
  have s13 := s1.trans (s2.trans s3)
  exact ⟨u, rfl, x, rfl, y, rfl, u, x, y, p, b, n, m, k, l, rfl, hu.kt (Kt.of s13), hx.kt (Kt.of s13), sx, hy.kt (Kt.of s13), sy, bp, bw, fun z H4 s4 hz => q z H4 (s13.trans s4) hz⟩
end
end K22

set_option Elab.async false
set_option linter.all false
set_option maxRecDepth 100000
set_option maxHeartbeats 4000000
local macro_rules | `(tactic| walk_at "rd") => `(tactic| dsimp only [Evl.tCut, L2.tSeq, L2.tNext, L2.tRet, L2.tRetN, L2.tAsg, L2.gName, L2.tIfS, L2.tDrop, L2.tCons, L2.tNil, L2.tC, L2.tVar, L2.tCB, L2.tAndV, L2.tOrV, L2.tNotV, L2.tB, L2.tTest, L2.tOp, L2.tUn, L2.tNot, L2.tAnd, L2.tOr, L2.tIf, L2.tCall, L2.tTup, L2.tLst, L2.tNotT, L2.tYes, L2.gTup, L2.gCons, L2.gNil, L2.gSub, L2.tBM0, L2.tBM, L2.tWhile, L2.tFor, L2.iRng1, L2.iRng2, L2.tAugS, Tw.iEnumT, L2.tCKw, L2.tAug, L2.ipI, RT.iRevA, L2.tPar, L2.tPar3, L2.tSl, L2.tNoPart, L2.tPart, Tw.tRevT])
namespace K22
open PySem PySem.Spec PyProof.Rows L2 Tw
/-! what is shown: lists of polys and fractions -/
def Shw (n : Nat) (d : PyData) : Prop := Nice 2 d ∧ PyData.showable d = true ∧ PyData.leavesShort 80 d = true ∧ PyData.weight d ≤ n
def Shl (n : Nat) (ds : List PyData) : Prop := (∀ d ∈ ds, Nice 2 d) ∧ PyData.showableAll ds = true ∧ PyData.leavesShortAll 80 ds = true ∧ PyData.weightAll ds ≤ n
theorem Shl.nil : Shl 0 [] := ⟨(fun d h => nomatch h), rfl, rfl, Nat.le_refl _⟩
theorem Shl.cons {n k : Nat} {d : PyData} {ds : List PyData} (h : Shw n d) (t : Shl k ds) : Shl (n + 1 + k) (d :: ds) := by
  obtain ⟨h1, h2, h3, h4⟩ := h
  obtain ⟨t1, t2, t3, t4⟩ := t
  refine ⟨fun e he => ?_, by rw [PyData.showableAll, h2, t2]; rfl, by rw [PyData.leavesShortAll, h3, t3]; rfl, by rw [PyData.weightAll]; omega⟩
  rcases List.mem_cons.mp he with rfl | he
  · exact h1
  · exact t1 e he
theorem Shl.up {n k : Nat} {ds : List PyData} (h : Shl n ds) (l : n ≤ k) : Shl k ds := ⟨h.1, h.2.1, h.2.2.1, Nat.le_trans h.2.2.2 l⟩
theorem Shl.app {n k : Nat} : ∀ {ds es : List PyData}, Shl n ds → Shl k es → Shl (n + k) (ds ++ es)
  | [], es, _, h => h.up (by omega)
  | d :: ds, es, g, h => by
    obtain ⟨g1, g2, g3, g4⟩ := g
    rw [PyData.showableAll, Bool.and_eq_true] at g2
    rw [PyData.leavesShortAll, Bool.and_eq_true] at g3
    rw [PyData.weightAll] at g4
    have t : Shl (n - (PyData.weight d + 1)) ds := ⟨fun e he => g1 e (List.mem_cons_of_mem _ he), g2.2, g3.2, by omega⟩
    have r := Shl.cons (n := PyData.weight d) (d := d) ⟨g1 d (by simp), g2.1, g3.1, Nat.le_refl _⟩ (Shl.app t h)
    exact r.up (by omega)
theorem log_big {c : Int} {a b : Nat} (h : c.natAbs < 10 ^ a) (hb : 10 ^ a ≤ 2 ^ b) (b0 : 0 < b) : c.natAbs.log2 < b := by
  by_cases z : c.natAbs = 0
  · rw [z]; simpa using b0
  · exact (Nat.log2_lt z).mpr (Nat.lt_of_lt_of_le h hb)
theorem shl_ints {a b : Nat} (ha : a ≤ 70) (hb : 10 ^ a ≤ 2 ^ b) (b0 : 0 < b) (b1 : b ≤ 1000) : ∀ r : List Int, (∀ c ∈ r, c.natAbs < 10 ^ a) → Shl (r.length * (b + 1)) (r.map PyData.int)
  | [], _ => Shl.nil.up (Nat.zero_le _)
  | c :: r, h => by
    have hc := h c (by simp)
    have lc := log_big hc hb b0
    have ih := shl_ints ha hb b0 b1 r fun d hd => h d (List.mem_cons_of_mem _ hd)
    have e : (c :: r).length * (b + 1) = b + 1 + r.length * (b + 1) := by rw [List.length_cons, Nat.succ_mul, Nat.add_comm]
    rw [List.map_cons, e]
    refine Shl.cons ⟨(nice_int c).up (by decide), by rw [PyData.showable, decide_eq_true (by omega)], ?_, ?_⟩ ih
    · have : (PyData.shown (.int c)).length ≤ 80 := by
        show (Str.ofString (toString c)).length ≤ 80
        rw [PySem.ofString_length]
        exact Nat.le_trans (int_text_length_le10 (k := 70) (by decide) (Nat.lt_of_lt_of_le hc (Nat.pow_le_pow_right (by decide) ha))) (by decide)
      rw [PyData.leavesShort, decide_eq_true this]
    · rw [PyData.weight]
      split <;> omega
theorem shw_row {a b : Nat} (ha : a ≤ 70) (hb : 10 ^ a ≤ 2 ^ b) (b0 : 0 < b) (b1 : b ≤ 1000) {r : List Int} (hr : r.length ≤ 8) (h : ∀ c ∈ r, c.natAbs < 10 ^ a) : Shw (8 * (b + 1)) (rowD r) := by
  have s := shl_ints ha hb b0 b1 r h
  unfold rowD
  refine ⟨(nice_row r).up (by decide), by rw [PyData.showable]; exact s.2.1, by rw [PyData.leavesShort]; exact s.2.2.1, ?_⟩
  rw [PyData.weight]
  exact Nat.le_trans s.2.2.2 (Nat.mul_le_mul_right _ hr)
theorem shl_rows {b : Nat} (hb : b < 10 ^ 30) : ∀ p : List (List Int), (∀ r ∈ p, r.length ≤ 8 ∧ ∀ c ∈ r, c.natAbs ≤ b) → Shl (p.length * 809) (p.map rowD)
  | [], _ => Shl.nil.up (Nat.zero_le _)
  | r :: p, h => by
    have hr := h r (by simp)
    have ih := shl_rows hb p fun d hd => h d (List.mem_cons_of_mem _ hd)
    have s := shw_row (a := 30) (b := 100) (by decide) (by decide) (by decide) (by decide) hr.1 fun c hc => Nat.lt_of_le_of_lt (hr.2 c hc) hb
    have e : (r :: p).length * 809 = 8 * (100 + 1) + 1 + p.length * 809 := by rw [List.length_cons, Nat.succ_mul, Nat.add_comm]
    rw [List.map_cons, e]
    exact Shl.cons s ih
theorem shw_poly {b : Nat} (hb : b < 10 ^ 30) {p : List (List Int)} (h : Bd 8 b p) : Shw 6472 (polyD p) := by
  have s := shl_rows hb p h.2
  have l := h.1
  unfold polyD
  refine ⟨nice_tup (n := 1) fun d hd => ?_, by rw [PyData.showable]; exact s.2.1, by rw [PyData.leavesShort]; exact s.2.2.1, ?_⟩
  · obtain ⟨r, _, rfl⟩ := List.mem_map.mp hd
    exact nice_row r
  · rw [PyData.weight]
    have := s.2.2.2
    omega
theorem shw_fr {x y : Int} (hx : x.natAbs < 10 ^ 70) (hy : y.natAbs < 10 ^ 70) : Shw 1928 (rowD [x, y]) := shw_row (a := 70) (b := 240) (by decide) (by decide) (by decide) (by decide) (by simp) fun c hc => by
  rcases List.mem_cons.mp hc with rfl | hc
  · exact hx
  · rw [List.mem_singleton.mp hc]; exact hy
theorem show_list {K : PySem.W.Frag} {H : Hp} {T : Addr} {xs : List V} {ds : List PyData} {a : Addr} {Q : VK} {n : Nat} (e : H T = some (.lst xs)) (r : DaAll a H xs ds) (s : Shl n ds) (hn : n ≤ 200000) (q : Q (.str (PyData.list ds).shown) H) : rShow K [.ref T] H Q := by
  obtain ⟨s1, s2, s3, s4⟩ := s
  refine ⟨T, .list ds, rfl, .lst (SqL.of e) (r.dp (canAll fun d hd => (s1 d hd).1)), (nice_lst s1).shaped (by decide), ?_, ?_, q⟩
  · rw [PyData.showable]; exact s2
  · have h := PyData.shown_le 80 (by decide) (.list ds) (by rw [PyData.leavesShort]; exact s3)
    rw [PyData.weight] at h
    refine Nat.le_trans h (Nat.le_trans ?_ (show 16777216 ≤ sizeLine by decide))
    omega
/-! fractions that are told twice -/
theorem vl_T {n m k l : Int} {p : List (List Int)} (hp : p.length ≤ 8) : Vl n m k l p = T k l (p.map fun r => Rv n m (g r) 7) * l ^ (8 - p.length) := by
  have := Rv_T (n := k) (m := l) (p.map fun r => Rv n m (g r) 7) 7 (by rw [List.length_map]; omega)
  rw [List.length_map] at this
  rw [show 8 - p.length = 7 + 1 - p.length from rfl, this]
  unfold Vl Pv
  refine Rv_ext _ fun i => ?_
  rcases Nat.lt_or_ge i p.length with c | c
  · rw [g_some (by rw [List.length_map]; exact c), List.getElem_map]
    exact Rv_ext _ fun j => by unfold co; rw [rw_some c]
  · rw [g_none (by rw [List.length_map]; exact c)]
    exact Rv_zero _ fun j => by unfold co; rw [rw_none c]; exact g_none (Nat.zero_le _)
theorem vl_wd {n m k l : Int} {b : Nat} {p : List (List Int)} (sx : Sp1 n m) (sy : Sp1 k l) (bp : Bd 8 b p) (bw : b ≤ 2 ^ 64) : (Vl n m k l p).natAbs < 10 ^ 70 := by
  rw [vl_T bp.1, Int.natAbs_mul]
  obtain ⟨s1, s2, s3, _⟩ := sy
  have t := T_le (B := Nw) s1 (show l.natAbs ≤ 7 by omega) (p.map fun r => Rv n m (g r) 7) fun w hw => by
    obtain ⟨r, hr, rfl⟩ := List.mem_map.mp hw
    exact wide_row sx (bp.2 r hr).1 fun c hc => Nat.le_trans ((bp.2 r hr).2 c hc) bw
  rw [List.length_map] at t
  have u : (l ^ (8 - p.length)).natAbs ≤ 7 ^ 8 := by
    rw [Int.natAbs_pow]
    exact Nat.le_trans (Nat.pow_le_pow_left (show l.natAbs ≤ 7 by omega) _) (Nat.pow_le_pow_right (by decide) (by omega))
  refine Nat.lt_of_le_of_lt (Nat.mul_le_mul (Nat.le_trans t (Nat.mul_le_mul_left _ (Nat.pow_le_pow_right (by decide) bp.1))) u) ?_
  unfold Nw
  decide
theorem da_fr {a : Addr} {H : Hp} {v : V} {x y : Int} (w : We a H) (h : Pr H v x y) : Da a H v (rowD [x, y]) := by
  obtain ⟨p, rfl, e⟩ := h
  exact .tup (We.nt w e) e (.cons (.int _) (.cons (.int _) .nil))
theorem FrE.kt {H H' : Hp} {E W : Int} {v : V} (k : Kt H H') (h : FrE E H v W) : FrE E H' v W := stable_fr E _ _ _ _ k h
/-- one data for both -/
theorem fr_two {a : Addr} {H H' : Hp} {u v : V} {E W : Int} (w : We a H) (w' : We a H') (E0 : 0 < E) (E1 : E < 10 ^ 70) (W1 : W.natAbs < 10 ^ 70) (h : FrE E H u W) (h' : FrE E H' v W) : ∃ d, Da a H u d ∧ Da a H' v d ∧ Shw 1928 d := by
  obtain ⟨x, y, p, l⟩ := h
  obtain ⟨x', y', p', l'⟩ := h'
  obtain ⟨rfl, rfl⟩ := lo_uniq l l' E0
  have := lo_le l E0
  have := l.1
  exact ⟨_, da_fr w p, da_fr w' p', shw_fr (Nat.lt_of_le_of_lt (lo_num l E0) W1) (by omega)⟩
theorem po_two {a : Addr} {H H' : Hp} {u v : V} {p q : List (List Int)} {b : Nat} (w : We a H) (w' : We a H') (h : Po H u p) (h' : Po H' v q) (e : p = q) (hb : Bd 8 b q) (b1 : b < 10 ^ 30) : ∃ d, Da a H u d ∧ Da a H' v d ∧ Shw 6472 d := by
  subst e
  exact ⟨_, da_poly w h, da_poly w' h', shw_poly b1 hb⟩
end K22

set_option Elab.async false
set_option linter.all false
set_option maxRecDepth 100000
set_option maxHeartbeats 8000000
local macro_rules | `(tactic| walk_at "rd") => `(tactic| dsimp only [Evl.tCut, L2.tSeq, L2.tNext, L2.tRet, L2.tRetN, L2.tAsg, L2.gName, L2.tIfS, L2.tDrop, L2.tCons, L2.tNil, L2.tC, L2.tVar, L2.tCB, L2.tAndV, L2.tOrV, L2.tNotV, L2.tB, L2.tTest, L2.tOp, L2.tUn, L2.tNot, L2.tAnd, L2.tOr, L2.tIf, L2.tCall, L2.tTup, L2.tLst, L2.tNotT, L2.tYes, L2.gTup, L2.gCons, L2.gNil, L2.gSub, L2.tBM0, L2.tBM, L2.tWhile, L2.tFor, L2.iRng1, L2.iRng2, L2.tAugS, Tw.iEnumT, L2.tCKw, L2.tAug, L2.ipI, RT.iRevA, L2.tPar, L2.tPar3, L2.tSl, L2.tNoPart, L2.tPart, Tw.tRevT])
namespace K22
open PySem PySem.Spec PyProof.Rows L2 Tw
def swp {α : Type} : List α → List α
  | [x, p] => [p, x]
  | us => us
theorem swp_rel {zs : List V} {us : List Value} (r : Vals zs us) (h : us.length = 2) : Vals (swp zs) (swp us) := by
  cases r with
  | nil => simp at h
  | cons r1 r2 =>
    cases r2 with
    | nil => simp at h
    | cons r3 r4 =>
      cases r4 with
      | nil => exact .cons r3 (.cons r1 .nil)
      | cons _ _ => simp at h
/-- (y, poly, x) as (poly, x, y) -/
def rot {α : Type} : List α → List α
  | [y, p, x] => [p, x, y]
  | us => us
theorem rot_rel {zs : List V} {us : List Value} (r : Vals zs us) (h : us.length = 3) : Vals (rot zs) (rot us) := by
  cases r with
  | nil => simp at h
  | cons r1 r2 =>
    cases r2 with
    | nil => simp at h
    | cons r3 r4 =>
      cases r4 with
      | nil => simp at h
      | cons r5 r6 =>
        cases r6 with
        | nil => exact .cons r3 (.cons r5 (.cons r1 .nil))
        | cons _ _ => simp at h
theorem g_neg (r : List Int) (k : Nat) : g (r.map fun c => -1 * c) k = -1 * g r k := by
  rcases Nat.lt_or_ge k r.length with c | c
  · rw [g_some (by rw [List.length_map]; exact c), List.getElem_map, g_some c]
  · rw [g_none (by rw [List.length_map]; exact c), g_none c]
    rfl
theorem okR_neg {r : List Int} (h : okR r) : okR (r.map fun c => -1 * c) := fun c hc => by
  rw [List.getLast?_map] at hc
  cases e : r.getLast? with
  | none => rw [e] at hc; cases hc
  | some x =>
    rw [e] at hc
    cases hc
    have := h x e
    show -1 * x ≠ 0
    omega
theorem neg_bd {n b : Nat} {p : List (List Int)} (h : Bd n b p) : Bd n b (trimP (p.map fun r => r.map fun c => -1 * c)) := by
  refine ⟨Nat.le_trans (trimBy_len _ _) (by rw [List.length_map]; exact h.1), fun r hr => ?_⟩
  obtain ⟨r0, h0, rfl⟩ := List.mem_map.mp (trimBy_mem _ _ hr)
  refine ⟨by rw [List.length_map]; exact (h.2 r0 h0).1, fun c hc => ?_⟩
  obtain ⟨c0, hc0, rfl⟩ := List.mem_map.mp hc
  have := (h.2 r0 h0).2 c0 hc0
  omega
theorem fr_prod {n m k l x1 y1 x2 y2 x y : Int} {b1 b2 : Nat} {p q t : List (List Int)} (m0 : 0 < m) (l0 : 0 < l) (hp : Bd 4 b1 p) (hq : Bd 4 b2 q) (h : ∀ i j, co t i j = cv2 p q i j)
    (h1 : Lo x1 y1 (Vl n m k l p) (m ^ 7 * l ^ 7)) (h2 : Lo x2 y2 (Vl n m k l q) (m ^ 7 * l ^ 7)) (h3 : Lo x y (x1 * x2) (y1 * y2)) : Lo x y (Vl n m k l t) (m ^ 7 * l ^ 7) := by
  have pm := pow_pos' m0 7
  have pl := pow_pos' l0 7
  have d0 : m ^ 7 * l ^ 7 ≠ 0 := Int.ne_of_gt (Int.mul_pos pm pl)
  have low : ∀ {b : Nat} {r : List (List Int)} {u v : Int}, Bd 4 b r → Lo u v (Vl n m k l r) (m ^ 7 * l ^ 7) → Lo u v (Pv n m k l r 3 3) (m ^ 3 * l ^ 3) := fun {b r u v} hb hl => by
    rw [Vl_low hb] at hl
    refine lo_scale hl d0 ?_
    grind
  have e := lo_prod (low hp h1) (low hq h2) h3
  rw [Vl_mul hp hq h]
  have pm3 := pow_pos' m0 3
  have pl3 := pow_pos' l0 3
  have pos := Int.mul_pos pm3 pl3
  refine lo_scale e (Int.ne_of_gt (Int.mul_pos pos pos)) ?_
  grind
def spRight : Sp := fun vs H Q _ => ∃ a, vs = [.ref a] ∧ We a H ∧ ∀ H', Kp a H H' → Q (.bl true) H'
abbrev spDer : Sp := fun vs H Q _ => ∃ a u p b, vs = [u] ∧ We a H ∧ Po H u p ∧ okP p ∧ Bd 8 b p ∧ ∀ z t H', Same H H' → Po H' z t → okP t → (∀ i j, co t i j = ((i + 1 : Nat) : Int) * co p (i + 1) j) → Q z H'
theorem cap_two {a : Addr} {H : Hp} {xs ys : List V} {d : PyData} {ds es : List PyData} {u : V} (h : DaAll a H xs ds) (g : Da a H u d) : DaAll a H (xs ++ [u]) (ds ++ [d]) := h.append (.cons g .nil)
section
variable {P : Program} {w : World} {K : PySem.W.Frag} {mg : Str → Option Value} {base : Heap}
theorem scRight : FnScope ["_law_well_here", "_law_one", "_law_two", "_law_kind", "_law_row_here", "_law_whole", "_law_square", "_law_told", "_law_due", "_law_k", "_law_here", "_law_there", "_law_far", "_law_high"] ["_law_well_here"] (defScope sRight) := ⟨rfl, rfl, rfl, by decide +kernel, rfl, by decide +kernel, by decide +kernel⟩
theorem ok_right (D : Def K mg "_law_right" sRight ["_law_well_here"]) (nb : Nb mg) (DP : Def K mg "poly_product" sApProd ["poly", "other"]) (DV : Def K mg "value_at" sApVal ["poly", "x", "y"])
    (cP : Cal P w K mg base "_law_poly" 4 ["_law_well_here", "_law_many"] spPolyM) (cD : Cal P w K mg base "_law_draw" 1 ["_law_well_here", "_law_many"] spDraw) (cS : Cal P w K mg base "_law_small" 3 ["_law_well_here"] spSmall)
    (cTr : Cal P w K mg base "_law_trim" 1 ["_law_some"] spTrimP) (cSc : Cal P w K mg base "_law_scaled" 2 ["_law_row_here", "_law_by"] spLScaled)
    (cLS : Cal P w K mg base "_law_poly_sum" 3 ["_law_one", "_law_two"] spPSum) (cLT : Cal P w K mg base "_law_poly_times" 3 ["_law_one", "_law_two"] spPTimes)
    (cU : Cal P w K mg base "_law_turned" 2 ["_law_some"] spTurned) (cL : Cal P w K mg base "_law_led" 3 ["_law_some"] spLed) (cW : Cal P w K mg base "_law_worth" 5 ["_law_some", "_law_here", "_law_there"] spWorth)
    (cA : Cal P w K mg base "_law_add" 3 ["_law_one", "_law_two"] spAddW) (cM : Cal P w K mg base "_law_mul" 3 ["_law_one", "_law_two"] spMulW)
    (aS : Cal P w K mg base "poly_sum" 6 ["poly", "other"] spApSum) (aP : Cal P w K mg base "poly_product" 6 ["poly", "other"] spApProd) (aE : Cal P w K mg base "exchanged" 5 ["poly"] spApExch)
    (aD : Cal P w K mg base "derived" 5 ["poly"] spDer) (aV : Cal P w K mg base "value_at" 5 ["poly", "x", "y"] spApVal) : CalG P w K mg base "_law_right" 7 ["_law_well_here"] spRight := by
  refine D.okG scRight (fun vs H Q E h => ?_) (fun f cdv A out s H vs Q E hq hr h => ?_)
  · obtain ⟨a, rfl, _⟩ := h; rfl
  obtain ⟨a, rfl, hw, q⟩ := h
  have hu : (A.deeper (envOfC "_law_right" (defScope sRight) s.heap.objs.size f cdv)).units + 70 < cLine := by have := hr.un; omega
  refine ⟨_, pss_cons (ps_par (i := 1) (j := 2) rfl scRight.nd rfl rfl (by decide) rfl rfl (pa_cons (pe_cal cP hr (by decide) (by rfl) (pa_cons (pv 0) (pa_cons pe_int pa_nil))) (pa_cons (pe_cal cP hr (by decide) (by rfl) (pa_cons (pv 0) (pa_cons pe_int pa_nil))) pa_nil)) rfl)
    (pss_cons (ps_set (i := 3) scRight.nd rfl (Or.inl rfl) (pe_cal cD hr (by decide) (by rfl) (pa_cons (pv 0) (pa_cons pe_int pa_nil))))
    (Evl.pss_cut (ps_if (pt_cmpR op_lt (pv 3) pe_int (nomark _)) (pss_one (ps_set (i := 2) scRight.nd rfl (Or.inl rfl)
        (pe_cal cLS hr (by decide) (by rfl) (pa_cons (pe_cal cTr hr (by decide) (by rfl) (pa_cons (pe_lc (own := [("_law_row_here", 4)]) (g := gName 4) (tt := tYes) rfl scRight.nd (pi_tup (pv 1)) (blkOk_by (N := ["_law_well_here", "_law_one", "_law_two", "_law_kind", "_law_row_here", "_law_whole", "_law_square", "_law_told", "_law_due", "_law_k", "_law_here", "_law_there", "_law_far", "_law_high"]) (sc := defScope sRight) (by decide +kernel)) (fun _ _ _ _ _ => pg_name (i := 4) scRight.nd rfl (Or.inl rfl)) (fun _ _ _ _ _ => pts_nil) (fun _ _ _ _ _ => (pe_cal cSc hr (by decide) (by rfl) (pa_cons (pv 4) (pa_cons (pe_un un_neg pe_int) pa_nil))))) pa_nil)) (pa_cons (pe_ifExp (pt_cmpR op_eq (pv 3) pe_int (nomark _)) (pe_cal cP hr (by decide) (by rfl) (pa_cons (pv 0) (pa_cons pe_int pa_nil))) (pe_tup pa_nil)) pa_nil))))) pss_nil)
    (pss_cons (ps_par (i := 5) (j := 6) rfl scRight.nd rfl rfl (by decide) rfl rfl (pa_cons (pe_cal cLS hr (by decide) (by rfl) (pa_cons (pv 1) (pa_cons (pv 2) pa_nil))) (pa_cons (pe_cal cLT hr (by decide) (by rfl) (pa_cons (pv 1) (pa_cons (pv 2) pa_nil))) pa_nil)) rfl)
    (pss_cons (ps_set (i := 7) scRight.nd rfl (Or.inl rfl) (pe_lst (pa_cons (pe_cal aS hr (by decide) (by rfl) (pa_cons (pv 1) (pa_cons (pv 2) pa_nil))) (pa_cons (pe_cal aS hr (by decide) (by rfl) (pa_cons (pv 2) (pa_cons (pv 1) pa_nil))) (pa_cons (pe_cal aP hr (by decide) (by rfl) (pa_cons (pv 1) (pa_cons (pv 2) pa_nil))) (pa_cons (pe_calK (ks := ["other", "poly"]) swp swp aP DP hr (by decide) (by rfl) (fun _ _ _ _ _ _ us hl => match us, hl with | [_, _], _ => rfl) swp_rel (pk_cons (pv 1) (pk_cons (pv 2) pk_nil)) (fun zs H Q h => by obtain ⟨v0, e0, v1, e1, q⟩ := h; exact ⟨v0, e0, v1, e1, rfl, q⟩)) pa_nil))))))
    (pss_cons (ps_set (i := 7) scRight.nd rfl (Or.inl rfl) (pe_op op_cat (pv 7) (pe_lst (pa_cons (pe_cal aE hr (by decide) (by rfl) (pa_cons (pv 1) pa_nil)) (pa_cons (pe_cal aE hr (by decide) (by rfl) (pa_cons (pv 6) pa_nil)) (pa_cons (pe_cal aE hr (by decide) (by rfl) (pa_cons (pe_cal aE hr (by decide) (by rfl) (pa_cons (pv 2) pa_nil)) pa_nil)) (pa_cons (pe_cal aD hr (by decide) (by rfl) (pa_cons (pv 1) pa_nil)) (pa_cons (pe_cal aD hr (by decide) (by rfl) (pa_cons (pv 6) pa_nil)) pa_nil))))))))
    (pss_cons (ps_set (i := 8) scRight.nd rfl (Or.inl rfl) (pe_lst (pa_cons (pv 5) (pa_cons (pv 5) (pa_cons (pv 6) (pa_cons (pv 6) (pa_cons (pe_cal cU hr (by decide) (by rfl) (pa_cons (pv 1) pa_nil)) (pa_cons (pe_cal cU hr (by decide) (by rfl) (pa_cons (pv 6) pa_nil)) (pa_cons (pv 2) (pa_cons (pe_cal cL hr (by decide) (by rfl) (pa_cons (pv 1) pa_nil)) (pa_cons (pe_cal cL hr (by decide) (by rfl) (pa_cons (pv 6) pa_nil)) pa_nil)))))))))))
    (pss_cons (ps_for PassesOwn.never rfl (pi_range1 (by rfl) nb.rng (pa_cons pe_int pa_nil)) (pg_name (i := 9) scRight.nd rfl (Or.inl rfl))
      (pss_cons (ps_par (i := 10) (j := 11) rfl scRight.nd rfl rfl (by decide) rfl rfl (pa_cons (pe_cal cS hr (by decide) (by rfl) (pa_cons (pv 0) pa_nil)) (pa_cons (pe_cal cS hr (by decide) (by rfl) (pa_cons (pv 0) pa_nil)) pa_nil)) rfl)
      (pss_cons (ps_par (i := 12) (j := 13) rfl scRight.nd rfl rfl (by decide) rfl rfl (pa_cons (pe_cal cW hr (by decide) (by rfl) (pa_cons (pv 1) (pa_cons (pv 10) (pa_cons (pv 11) pa_nil)))) (pa_cons (pe_cal cW hr (by decide) (by rfl) (pa_cons (pv 2) (pa_cons (pv 10) (pa_cons (pv 11) pa_nil)))) pa_nil)) rfl)
      (pss_cons (ps_set (i := 7) scRight.nd rfl (Or.inl rfl) (pe_op op_cat (pv 7) (pe_lst (pa_cons (pe_cal aV hr (by decide) (by rfl) (pa_cons (pv 1) (pa_cons (pv 10) (pa_cons (pv 11) pa_nil)))) (pa_cons (pe_calK (ks := ["y", "poly", "x"]) rot rot aV DV hr (by decide) (by rfl) (fun _ _ _ _ _ _ us hl => match us, hl with | [_, _, _], _ => rfl) rot_rel (pk_cons (pv 11) (pk_cons (pv 2) (pk_cons (pv 10) pk_nil))) (fun zs H Q h => by obtain ⟨v0, e0, v1, e1, v2, e2, q⟩ := h; exact ⟨v0, e0, v1, e1, v2, e2, rfl, q⟩)) (pa_cons (pe_cal aV hr (by decide) (by rfl) (pa_cons (pv 5) (pa_cons (pv 10) (pa_cons (pv 11) pa_nil)))) pa_nil))))))
      (pss_cons (ps_set (i := 7) scRight.nd rfl (Or.inl rfl) (pe_op op_cat (pv 7) (pe_lst (pa_cons (pe_cal aV hr (by decide) (by rfl) (pa_cons (pv 6) (pa_cons (pv 10) (pa_cons (pv 11) pa_nil)))) (pa_cons (pe_cal aV hr (by decide) (by rfl) (pa_cons (pe_cal cU hr (by decide) (by rfl) (pa_cons (pv 2) pa_nil)) (pa_cons (pv 11) (pa_cons (pv 10) pa_nil)))) pa_nil)))))
      (pss_one (ps_set (i := 8) scRight.nd rfl (Or.inl rfl) (pe_op op_cat (pv 8) (pe_lst (pa_cons (pv 12) (pa_cons (pv 13) (pa_cons (pe_cal cA hr (by decide) (by rfl) (pa_cons (pv 12) (pa_cons (pv 13) pa_nil))) (pa_cons (pe_cal cM hr (by decide) (by rfl) (pa_cons (pv 12) (pa_cons (pv 13) pa_nil))) (pa_cons (pv 13) pa_nil))))))))))))))
    (pss_one (ps_ret (pe_cmpR op_eq (pe_callB (id := "repr") (r := rShow K) (call_show hq hu) (by rfl) nb.repr (by decide +kernel) (pa_cons (pv 7) pa_nil))
        (pe_callB (id := "repr") (r := rShow K) (call_show hq hu) (by rfl) nb.repr (by decide +kernel) (pa_cons (pv 8) pa_nil)) (nomark _))))))))))), ?_⟩
  walk_at "rd"
  refine ⟨.ref a, rfl, a, 4, rfl, hw, by decide, by decide, fun v1 p H1 k1 w1 p1 okp bp1 => ⟨.ref a, rfl, a, 4, rfl, w1, by decide, by decide, fun v2 q0 H2 k2 w2 pq2 okq bq2 => ⟨_, _, rfl, .ref a, rfl, a, 8, rfl, w2, by decide, by decide, fun d H3 d0 d1 k3 w3 => ?_⟩⟩⟩
  have k03 := (k1.trans k2).trans k3
  have b4 : Bd 4 500000 p := bp1 4 (by decide)
  have b4q : Bd 4 500000 q0 := bq2 4 (by decide)
  have p3 : Po H3 v1 p := p1.kt ((kt_kp w1 k2).trans (kt_kp w2 k3))
  have pq3 : Po H3 v2 q0 := pq2.kt (kt_kp w2 k3)
  clear p1 pq2 bp1 bq2
  refine ⟨fun σ H' => ∃ v2 t, σ = [some (.ref a), some v1, some v2, some (.int d), none, none, none, none, none, none, none, none, none, none] ∧ Kp a H H' ∧ We a H' ∧ Po H' v1 p ∧ Po H' v2 t ∧ okP t ∧ Bd 4 1000000 t, ?_, ?_⟩
  · refine ⟨.int d, rfl, _, _, rfl, rfl, _, rfl, ite2 (fun c => ?_) (fun c => ?_)⟩
    · obtain ⟨pu, xs, e1, eu, hx⟩ := p3
      subst e1
      refine lc_relT (S := Ro) (R := Ro) (g := fun r => r.map fun c => -1 * c) (rs := p) (p := pu) (xs := xs) stable_ro stable_ro rfl eu hx (by have := b4.1; omega) (fun x => wipeJ _ _ _) (fun v r H4 hr4 s4 rv Z hZ => ?_) fun L ys H4 s4 nL eL ry => ?_
      · refine ⟨v, rfl, 1, rfl, v, r, -1, 500000, rfl, rv, by have := (b4.2 r hr4).1; omega, by decide, (b4.2 r hr4).2, fun z t H5 s5 rz okz _ _ gz => hZ z H5 s5 ?_⟩
        have : t = r.map fun c => -1 * c := row_ext okz (okR_neg (okp.1 r hr4)) fun k => by rw [gz, g_neg]
        rw [← this]
        exact rz
      · refine ⟨L, ys, _, rfl, eL, ry, ⟨a, w3.to s4⟩, fun z H5 s5 pz => ?_⟩
        have bn := neg_bd b4
        have s35 := s4.trans s5
        have w5 := w3.to s35
        have pv5 : Po H5 (.ref pu) p := ⟨pu, xs, rfl, s35 _ _ eu, RoA.kt (Kt.of s35) hx⟩
        refine ⟨.int d, rfl, rfl, _, rfl, ite2 (fun c2 => ?_) (fun c2 => ?_)⟩
        · refine ⟨.ref a, rfl, a, 2, rfl, w5, by decide, by decide, fun v3 r H6 k6 w6 p6 ok6 b6 => ?_⟩
          have b6' : Bd 4 500000 r := b6 4 (by decide)
          refine ⟨_, v3, _, r, 500000, 500000, rfl, pz.kt (kt_kp w5 k6), p6, ⟨a, w6⟩, bd48 bn, bd48 b6', fun z2 t H7 s7 pz2 ok2 l2 r2 _ => ?_⟩
          refine ⟨z2, t, rfl, (((k03.trans (Kp.of s35)).trans k6).trans (Kp.of s7)), w6.to s7, (pv5.kt (kt_kp w5 k6)).kt (Kt.of s7), pz2, ok2, ?_, ?_⟩
          · have h1 := bn.1
            have h2 := b6'.1
            exact Nat.le_trans l2 (Nat.max_le.mpr ⟨h1, h2⟩)
          · exact fun r' hr' => r2 4 (fun x hx => (bn.2 x hx).1) (fun x hx => (b6'.2 x hx).1) r' hr'
        · refine ⟨sz (by simp), fun e0 ne0 => ?_⟩
          have s6 := same_new (o := .tup []) ne0
          refine ⟨_, .ref e0, _, [], 500000, 0, rfl, pz.kt (Kt.of s6), ⟨e0, [], rfl, upd_same, RoA.nil _⟩, ⟨a, w5.to s6⟩, bd48 bn, ⟨by simp, fun r hr => by cases hr⟩, fun z2 t H7 s7 pz2 ok2 l2 r2 _ => ?_⟩
          have s67 := s6.trans s7
          refine ⟨z2, t, rfl, ((k03.trans (Kp.of s35)).trans (Kp.of s67)), w5.to s67, pv5.kt (Kt.of s67), pz2, ok2, ?_, ?_⟩
          · exact Nat.le_trans l2 (Nat.max_le.mpr ⟨bn.1, by simp⟩)
          · intro r' hr'
            have := r2 4 (fun x hx => (bn.2 x hx).1) (fun x hx => by cases hx) r' hr'
            exact ⟨this.1, fun c hc => Nat.le_trans (this.2 c hc) (by decide)⟩
    · exact ⟨v2, q0, rfl, k03, w3, p3, pq3, okq, b4q.1, fun r hr => ⟨(b4q.2 r hr).1, fun c hc => Nat.le_trans ((b4q.2 r hr).2 c hc) (by decide)⟩⟩
  clear p3 pq3 b4q okq k03 k1 k2 k3 w1 w2 w3
  rintro σ H4 ⟨v2, t, rfl, k4, w4, pv4, pt4, okt, bt⟩
  refine ⟨v1, rfl, v2, rfl, v1, v2, p, t, 500000, 1000000, rfl, pv4, pt4, ⟨a, w4⟩, bd48 b4, bd48 bt, fun zw tw H5 s5 pw okw lw rw5 cw => ?_⟩
  refine ⟨v1, rfl, v2, rfl, v1, v2, p, t, 500000, 1000000, rfl, pv4.kt (Kt.of s5), pt4.kt (Kt.of s5), ⟨a, w4.to s5⟩, b4, bt, by decide, fun zs ts H6 s6 ps oks bs cs => ⟨_, _, rfl, ?_⟩⟩
  have bw : Bd 4 1500000 tw := ⟨Nat.le_trans lw (Nat.max_le.mpr ⟨b4.1, bt.1⟩), fun r hr => rw5 4 (fun x hx => (b4.2 x hx).1) (fun x hx => (bt.2 x hx).1) r hr⟩
  have s46 := s5.trans s6
  have w6 := w4.to s46
  have k6 := k4.trans (Kp.of s46)
  have pv6 := pv4.kt (Kt.of s46)
  have pt6 := pt4.kt (Kt.of s46)
  have pw6 := pw.kt (Kt.of s6)
  clear pv4 pt4 pw k4 w4 s46 s5 s6 lw rw5
  have bp6 : Bd 4 1000000 p := ⟨b4.1, fun r hr => ⟨(b4.2 r hr).1, fun c hc => Nat.le_trans ((b4.2 r hr).2 c hc) (by decide)⟩⟩
  -- four told
  refine ⟨v1, rfl, v2, rfl, a, v1, v2, p, t, 1000000, rfl, w6, pv6, pt6, okp, okt, bd48 bp6, bd48 bt, fun z1 t1 H7 s7 q1 ok1 c1 => ?_⟩
  refine ⟨v2, rfl, v1, rfl, a, v2, v1, t, p, 1000000, rfl, w6.to s7, pt6.kt (Kt.of s7), pv6.kt (Kt.of s7), okt, okp, bd48 bt, bd48 bp6, fun z2 t2 H8 s8 q2 ok2 c2 => ?_⟩
  have s68 := s7.trans s8
  refine ⟨v1, rfl, v2, rfl, a, v1, v2, p, t, 1000000, rfl, w6.to s68, pv6.kt (Kt.of s68), pt6.kt (Kt.of s68), okp, okt, bp6, bt, by decide, fun z3 t3 H9 s9 q3 ok3 c3 => ?_⟩
  have s69 := s68.trans s9
  refine ⟨v1, rfl, v2, rfl, a, v2, v1, t, p, 1000000, rfl, w6.to s69, pt6.kt (Kt.of s69), pv6.kt (Kt.of s69), okt, okp, bt, bp6, by decide, fun z4 t4 H10 s10 q4 ok4 c4 => ?_⟩
  have s610 := s69.trans s10
  have e1 : t1 = tw := poly_ext ok1 okw fun i j => by rw [c1, cw]
  have e2 : t2 = tw := poly_ext ok2 okw fun i j => by rw [c2, cw, Int.add_comm]
  have e3 : t3 = ts := poly_ext ok3 oks fun i j => by rw [c3, cs]
  have e4 : t4 = ts := poly_ext ok4 oks fun i j => by rw [c4, cs, cv2_comm]
  rw [e1] at q1
  rw [e2] at q2
  rw [e3] at q3
  rw [e4] at q4
  refine ⟨sz (by simp), fun L1 nL1 => ?_⟩
  have sL1 := same_new (o := .lst [z1, z2, z3, z4]) nL1
  have eL1 : upd H10 L1 (.lst [z1, z2, z3, z4]) L1 = some (.lst [z1, z2, z3, z4]) := upd_same
  have s6G := s610.trans sL1
  have r1 := q1.kt (Kt.of (s8.trans (s9.trans (s10.trans sL1))))
  have r2 := q2.kt (Kt.of (s9.trans (s10.trans sL1)))
  have r3 := q3.kt (Kt.of (s10.trans sL1))
  have r4 := q4.kt (Kt.of sL1)
  generalize upd H10 L1 (.lst [z1, z2, z3, z4]) = G1 at eL1 s6G r1 r2 r3 r4 ⊢
  clear s7 s8 s9 s10 s68 s69 s610 sL1 q1 q2 q3 q4 nL1 e1 e2 e3 e4 ok1 ok2 ok3 ok4 c1 c2 c3 c4
  clear H7 H8 H9 H10
  -- five told
  refine ⟨.ref L1, rfl, v1, rfl, a, v1, p, _, rfl, w6.to s6G, pv6.kt (Kt.of s6G), okp, bd48 bp6, fun z5 H11 s11 q5 => ?_⟩
  have s611 := s6G.trans s11
  refine ⟨zs, rfl, a, zs, ts, _, rfl, w6.to s611, ps.kt (Kt.of s611), oks, bs, fun z6 H12 s12 q6 => ?_⟩
  have s612 := s611.trans s12
  refine ⟨v2, rfl, a, v2, t, _, rfl, w6.to s612, pt6.kt (Kt.of s612), okt, bd48 bt, fun z7' H13 s13 q7' => ?_⟩
  have s613 := s612.trans s13
  refine ⟨a, z7', exch t, _, rfl, w6.to s613, q7', okP_exch t, bd_exch (bd48 bt), fun z7 H14 s14 q7 => ?_⟩
  have s614 := s613.trans s14
  refine ⟨v1, rfl, a, v1, p, _, rfl, w6.to s614, pv6.kt (Kt.of s614), okp, bd48 bp6, fun z8 t8 H15 s15 q8 ok8 c8 => ?_⟩
  have s615 := s614.trans s15
  refine ⟨zs, rfl, a, zs, ts, _, rfl, w6.to s615, ps.kt (Kt.of s615), oks, bs, fun z9 t9 H16 s16 q9 ok9 c9 => ?_⟩
  have s616 := s615.trans s16
  have e7 : exch (exch t) = t := poly_ext (okP_exch _) okt fun i j => by rw [co_exch, co_exch]
  rw [e7] at q7
  refine ⟨sz (by simp), fun L2 nL2 => ?_⟩
  have sL2 := same_new (o := .lst [z5, z6, z7, z8, z9]) nL2
  have g16 := s11.trans (s12.trans (s13.trans (s14.trans (s15.trans s16))))
  have gL2 := g16.trans sL2
  refine ⟨L1, L2, [z1, z2, z3, z4], [z5, z6, z7, z8, z9], rfl, rfl, gL2 _ _ eL1, upd_same, sz (by simp), fun T nT => ?_⟩
  have sT := same_new (o := .lst ([z1, z2, z3, z4] ++ [z5, z6, z7, z8, z9])) nT
  have s16T := sL2.trans sT
  have gT := g16.trans s16T
  have eT : upd (upd H16 L2 (.lst [z5, z6, z7, z8, z9])) T (.lst ([z1, z2, z3, z4] ++ [z5, z6, z7, z8, z9])) T = some (.lst ([z1, z2, z3, z4] ++ [z5, z6, z7, z8, z9])) := upd_same
  have s6T := s6G.trans gT
  have Ta : T ≠ a := (w6.to (s616.trans sL2)).ne nT
  have a1 := r1.kt (Kt.of gT)
  have a2 := r2.kt (Kt.of gT)
  have a3 := r3.kt (Kt.of gT)
  have a4 := r4.kt (Kt.of gT)
  have a5 := q5.kt (Kt.of (s12.trans (s13.trans (s14.trans (s15.trans (s16.trans s16T))))))
  have a6 := q6.kt (Kt.of (s13.trans (s14.trans (s15.trans (s16.trans s16T)))))
  have a7 := q7.kt (Kt.of (s15.trans (s16.trans s16T)))
  have a8 := q8.kt (Kt.of (s16.trans s16T))
  have a9 := q9.kt (Kt.of s16T)
  generalize upd (upd H16 L2 (.lst [z5, z6, z7, z8, z9])) T (.lst ([z1, z2, z3, z4] ++ [z5, z6, z7, z8, z9])) = G2 at eT s6T a1 a2 a3 a4 a5 a6 a7 a8 a9 ⊢
  clear r1 r2 r3 r4 q5 q6 q7 q7' q8 q9 gT s16T sT gL2 g16 sL2 s616 s615 s614 s613 s612 s611 s11 s12 s13 s14 s15 s16 eL1 s6G nT nL2
  -- due
  refine ⟨zw, rfl, zw, rfl, zs, rfl, zs, rfl, v1, rfl, v1, p, _, rfl, pv6.kt (Kt.of s6T), ⟨a, w6.to s6T⟩, bd48 bp6, fun y5 H17 s17 o5 => ?_⟩
  have s617 := s6T.trans s17
  refine ⟨zs, rfl, zs, ts, _, rfl, ps.kt (Kt.of s617), ⟨a, w6.to s617⟩, bs, fun y6 H18 s18 o6 => ?_⟩
  have s618 := s617.trans s18
  refine ⟨v2, rfl, v1, rfl, v1, p, _, rfl, pv6.kt (Kt.of s618), ⟨a, w6.to s618⟩, bd48 bp6, fun y8 u8 H19 s19 o8 ok8' b8 c8' => ?_⟩
  have s619 := s618.trans s19
  refine ⟨zs, rfl, zs, ts, _, rfl, ps.kt (Kt.of s619), ⟨a, w6.to s619⟩, bs, fun y9 u9 H20 s20 o9 ok9' b9 c9' => ?_⟩
  have s620 := s619.trans s20
  have e8 : t8 = u8 := poly_ext ok8 ok8' fun i j => by rw [c8, c8']
  have e9 : t9 = u9 := poly_ext ok9 ok9' fun i j => by rw [c9, c9']
  rw [e8] at a8
  rw [e9] at a9
  refine ⟨sz (by simp), fun D nD => ?_⟩
  have sD := same_new (o := .lst [zw, zw, zs, zs, y5, y6, v2, y8, y9]) nD
  have eD : upd H20 D (.lst [zw, zw, zs, zs, y5, y6, v2, y8, y9]) D = some (.lst [zw, zw, zs, zs, y5, y6, v2, y8, y9]) := upd_same
  have Dna : D ≠ a := (w6.to s620).ne nD
  have gD := s17.trans (s18.trans (s19.trans (s20.trans sD)))
  have s6D := s620.trans sD
  have wD := w6.to s6D
  have f5 := o5.kt (Kt.of (s18.trans (s19.trans (s20.trans sD))))
  have f6 := o6.kt (Kt.of (s19.trans (s20.trans sD)))
  have f8 := o8.kt (Kt.of (s20.trans sD))
  have f9 := o9.kt (Kt.of sD)
  have eTD := gD _ _ eT
  have da : ∀ {v : V} {x : List (List Int)}, Po G2 v x → Da a (upd H20 D (.lst [zw, zw, zs, zs, y5, y6, v2, y8, y9])) v (polyD x) := fun {v x} h => da_poly wD (h.kt (Kt.of gD))
  have dT : DaAll a (upd H20 D (.lst [zw, zw, zs, zs, y5, y6, v2, y8, y9])) ([z1, z2, z3, z4] ++ [z5, z6, z7, z8, z9]) [polyD tw, polyD tw, polyD ts, polyD ts, polyD (exch p), polyD (exch ts), polyD t, polyD u8, polyD u9] :=
    .cons (da a1) (.cons (da a2) (.cons (da a3) (.cons (da a4) (.cons (da a5) (.cons (da a6) (.cons (da a7) (.cons (da a8) (.cons (da a9) .nil))))))))
  have dD : DaAll a (upd H20 D (.lst [zw, zw, zs, zs, y5, y6, v2, y8, y9])) [zw, zw, zs, zs, y5, y6, v2, y8, y9] [polyD tw, polyD tw, polyD ts, polyD ts, polyD (exch p), polyD (exch ts), polyD t, polyD u8, polyD u9] :=
    .cons (da_poly wD (pw6.kt (Kt.of s6D))) (.cons (da_poly wD (pw6.kt (Kt.of s6D))) (.cons (da_poly wD (ps.kt (Kt.of s6D))) (.cons (da_poly wD (ps.kt (Kt.of s6D))) (.cons (da_poly wD f5) (.cons (da_poly wD f6) (.cons (da_poly wD (pt6.kt (Kt.of s6D))) (.cons (da_poly wD f8) (.cons (da_poly wD f9) .nil))))))))
  have sh : Shl 60000 [polyD tw, polyD tw, polyD ts, polyD ts, polyD (exch p), polyD (exch ts), polyD t, polyD u8, polyD u9] := by
    have h1 := shw_poly (by decide) (bd48 bw)
    have h2 := shw_poly (by decide) bs
    have h3 := shw_poly (by decide) (bd_exch (bd48 bp6))
    have h4 := shw_poly (by decide) (bd_exch bs)
    have h5 := shw_poly (by decide) (bd48 bt)
    have h6 := shw_poly (by decide) b8
    have h7 := shw_poly (by decide) b9
    exact (Shl.cons h1 (Shl.cons h1 (Shl.cons h2 (Shl.cons h2 (Shl.cons h3 (Shl.cons h4 (Shl.cons h5 (Shl.cons h6 (Shl.cons h7 Shl.nil))))))))).up (by decide)
  have pvD := pv6.kt (Kt.of s6D)
  have ptD := pt6.kt (Kt.of s6D)
  have pwD := pw6.kt (Kt.of s6D)
  have psD := ps.kt (Kt.of s6D)
  have kD := k6.trans (Kp.of s6D)
  generalize upd H20 D (.lst [zw, zw, zs, zs, y5, y6, v2, y8, y9]) = G3 at eD wD eTD dT dD pvD ptD pwD psD kD ⊢
  clear da f5 f6 f8 f9 s6D gD sD s620 s619 s618 s617 s17 s18 s19 s20 a1 a2 a3 a4 a5 a6 a7 a8 a9 o5 o6 o8 o9 e8 e9 e7 c8 c9 c8' c9' ok8 ok9 ok8' ok9' b8 b9 eT s6T pv6 pt6 pw6 ps k6 w6 nD
  refine ⟨3, rfl, by decide, by decide, for_rng (lo := 0) (n := 3) (fun i σ H' => ∃ (T D : Addr) (xs ys : List V) (ds : List PyData) (o9 o10 o11 o12 o13 : Option V), σ = [some (.ref a), some v1, some v2, some (.int d), none, some zw, some zs, some (.ref T), some (.ref D), o9, o10, o11, o12, o13] ∧ Kp a H H' ∧ We a H' ∧ Po H' v1 p ∧ Po H' v2 t ∧ Po H' zw tw ∧ Po H' zs ts ∧ T ≠ a ∧ D ≠ a ∧ H' T = some (.lst xs) ∧ H' D = some (.lst ys) ∧ DaAll a H' xs ds ∧ DaAll a H' ys ds ∧ Shl (60000 + 10000 * i) ds ∧ ds.length = 9 + 5 * i) ?_ ?_ ?_⟩
  · exact ⟨T, D, _, _, _, none, none, none, none, none, rfl, kD, wD, pvD, ptD, pwD, psD, Ta, Dna, eTD, eD, dT, dD, sh, rfl⟩
  · clear dT dD sh pvD ptD pwD psD kD wD eTD eD Ta Dna
    rintro i σ H0 hi ⟨T, D, xs, ys, ds, o9, o10, o11, o12, o13, rfl, k0, w0, pv, pt, pw, ps, Ta, Dna, eT, eD, dT, dD, sh, ld⟩
    walk_at "rd"
    refine ⟨.ref a, rfl, a, rfl, w0, fun vx n m H1 k1 w1 prx sx => ⟨.ref a, rfl, a, rfl, w1, fun vy kk l H2 k2 w2 pry sy => ⟨_, _, rfl, ?_⟩⟩⟩
    have k02 := k1.trans k2
    have t02 : Kt H0 H2 := (kt_kp w0 k1).trans (kt_kp w1 k2)
    have pv2 := pv.kt t02
    have pt2 := pt.kt t02
    have pw2 := pw.kt t02
    have ps2 := ps.kt t02
    have px2 := prx.kt (kt_kp w1 k2)
    have eT2 := k02 _ _ Ta eT
    have eD2 := k02 _ _ Dna eD
    have dT2 := dT.kp k02
    have dD2 := dD.kp k02
    have kH2 := k0.trans k02
    have lxs : xs.length ≤ 100 := by have := dT.len; omega
    have lys : ys.length ≤ 100 := by have := dD.len; omega
    clear pv pt pw ps eT eD dT dD k0 t02 prx
    have E0 : 0 < m ^ 7 * l ^ 7 := Int.mul_pos (pow_pos' sx.2.1 7) (pow_pos' sy.2.1 7)
    have E1 : m ^ 7 * l ^ 7 ≤ 7 ^ 7 * 7 ^ 7 := Int.mul_le_mul (pow_le7 sx.2.1 sx.2.2.1 7) (pow_le7 sy.2.1 sy.2.2.1 7) (Int.le_of_lt (pow_pos' sy.2.1 7)) (by decide)
    have E2 : m ^ 7 * l ^ 7 < 10 ^ 70 := Int.lt_of_le_of_lt E1 (by decide)
    refine ⟨v1, rfl, vx, rfl, vy, rfl, v1, vx, vy, p, _, n, m, kk, l, rfl, pv2, px2, sx, pry, sy, bd48 bp6, by decide, fun zf H3 s3 ff => ?_⟩
    refine ⟨v2, rfl, vx, rfl, vy, rfl, v2, vx, vy, t, _, n, m, kk, l, rfl, pt2.kt (Kt.of s3), px2.kt (Kt.of s3), sx, pry.kt (Kt.of s3), sy, bd48 bt, by decide, fun zh H4 s4 fh => ⟨_, _, rfl, ?_⟩⟩
    have s24 := s3.trans s4
    refine ⟨.ref T, rfl, v1, rfl, vx, rfl, vy, rfl, a, v1, vx, vy, p, _, n, m, kk, l, rfl, w2.to s24, pv2.kt (Kt.of s24), okp, px2.kt (Kt.of s24), sx, pry.kt (Kt.of s24), sy, bd48 bp6, by decide, fun x1 H5 s5 f1 => ?_⟩
    have s25 := s24.trans s5
    refine ⟨vy, rfl, v2, rfl, vx, rfl, a, v2, vx, vy, t, _, n, m, kk, l, rfl, w2.to s25, pt2.kt (Kt.of s25), okt, px2.kt (Kt.of s25), sx, pry.kt (Kt.of s25), sy, bd48 bt, by decide, fun x2 H6 s6 f2 => ?_⟩
    have s26 := s25.trans s6
    refine ⟨zw, rfl, vx, rfl, vy, rfl, a, zw, vx, vy, tw, _, n, m, kk, l, rfl, w2.to s26, pw2.kt (Kt.of s26), okw, px2.kt (Kt.of s26), sx, pry.kt (Kt.of s26), sy, bd48 bw, by decide, fun x3 H7 s7 f3 => ?_⟩
    have s27 := s26.trans s7
    refine ⟨sz (by simp), fun L nL => ?_⟩
    have s8 := same_new (o := .lst [x1, x2, x3]) nL
    have s28 := s27.trans s8
    refine ⟨T, L, xs, [x1, x2, x3], rfl, rfl, s28 _ _ eT2, upd_same, sz (by simp; omega), fun T2 nT2 => ?_⟩
    have s9 := same_new (o := .lst (xs ++ [x1, x2, x3])) nT2
    have s29 := s28.trans s9
    have eT9 : upd (upd H7 L (.lst [x1, x2, x3])) T2 (.lst (xs ++ [x1, x2, x3])) T2 = some (.lst (xs ++ [x1, x2, x3])) := upd_same
    have g1 := f1.kt (Kt.of (s6.trans (s7.trans (s8.trans s9))))
    have g2 := f2.kt (Kt.of (s7.trans (s8.trans s9)))
    have g3 := f3.kt (Kt.of (s8.trans s9))
    have gf := ff.kt (Kt.of (s4.trans (s5.trans (s6.trans (s7.trans (s8.trans s9))))))
    have gh := fh.kt (Kt.of (s5.trans (s6.trans (s7.trans (s8.trans s9)))))
    generalize upd (upd H7 L (.lst [x1, x2, x3])) T2 (.lst (xs ++ [x1, x2, x3])) = G9 at s29 eT9 g1 g2 g3 gf gh ⊢
    clear f1 f2 f3 ff fh s28 s27 s26 s25 s24 s3 s4 s5 s6 s7 s8 s9 nL nT2
    have w9 := w2.to s29
    have px9 := px2.kt (Kt.of s29)
    have py9 := pry.kt (Kt.of s29)
    refine ⟨.ref T2, rfl, zs, rfl, vx, rfl, vy, rfl, a, zs, vx, vy, ts, _, n, m, kk, l, rfl, w9, ps2.kt (Kt.of s29), oks, px9, sx, py9, sy, bs, by decide, fun x4 H10 s10 f4 => ?_⟩
    refine ⟨v2, rfl, v2, t, _, rfl, (pt2.kt (Kt.of s29)).kt (Kt.of s10), ⟨a, w9.to s10⟩, bd48 bt, fun ze H11 s11 pe => ?_⟩
    have s911 := s10.trans s11
    refine ⟨vy, rfl, vx, rfl, a, ze, vy, vx, exch t, _, kk, l, n, m, rfl, w9.to s911, pe, okP_exch t, py9.kt (Kt.of s911), sy, px9.kt (Kt.of s911), sx, bd_exch (bd48 bt), by decide, fun x5 H12 s12 f5 => ?_⟩
    have s912 := s911.trans s12
    rw [Vl_exch (p := t) (co_exch t), Int.mul_comm (l ^ 7)] at f5
    refine ⟨sz (by simp), fun L nL => ?_⟩
    have s13 := same_new (o := .lst [x4, x5]) nL
    have s913 := s912.trans s13
    refine ⟨T2, L, xs ++ [x1, x2, x3], [x4, x5], rfl, rfl, s913 _ _ eT9, upd_same, sz (by simp; omega), fun T3 nT3 => ?_⟩
    have s14 := same_new (o := .lst (xs ++ [x1, x2, x3] ++ [x4, x5])) nT3
    have s914 := s913.trans s14
    have eT14 : upd (upd H12 L (.lst [x4, x5])) T3 (.lst (xs ++ [x1, x2, x3] ++ [x4, x5])) T3 = some (.lst (xs ++ [x1, x2, x3] ++ [x4, x5])) := upd_same
    have T3a : T3 ≠ a := (w9.to s913).ne nT3
    have g4 := f4.kt (Kt.of (s11.trans (s12.trans (s13.trans s14))))
    have g5 := f5.kt (Kt.of (s13.trans s14))
    generalize upd (upd H12 L (.lst [x4, x5])) T3 (.lst (xs ++ [x1, x2, x3] ++ [x4, x5])) = G14 at s914 eT14 g4 g5 ⊢
    clear f4 f5 s913 s912 s911 s10 s11 s12 s13 s14 nL nT3 pe eT9
    have gf' := gf.kt (Kt.of s914)
    have gh' := gh.kt (Kt.of s914)
    have vp := vl_wd sx sy (bd48 bp6) (by decide)
    have vt := vl_wd sx sy (bd48 bt) (by decide)
    obtain ⟨xf, yf, pf, lf⟩ := gf'
    obtain ⟨xh, yh, ph, lh⟩ := gh'
    have wide : ∀ {x y W : Int}, Lo x y W (m ^ 7 * l ^ 7) → W.natAbs < 10 ^ 70 → Wd 400 x ∧ Wd 400 y := fun {x y W} hl hW => by
      have h1 := lo_num hl E0
      have h2 := lo_le hl E0
      have h3 := hl.1
      exact ⟨Nat.lt_of_le_of_lt h1 (Nat.lt_trans hW (by decide)), Nat.lt_trans (show y.natAbs < 10 ^ 70 by omega) (by decide)⟩
    obtain ⟨wxf, wyf⟩ := wide lf vp
    obtain ⟨wxh, wyh⟩ := wide lh vt
    refine ⟨.ref D, rfl, zf, rfl, zh, rfl, zf, rfl, zh, rfl, zf, zh, xf, yf, xh, yh, rfl, pf, ph, lf.1, lh.1, wxf, wyf, wxh, wyh, fun za xa ya H15 s15 pa la => ?_⟩
    have la' := lo_sum lf lh (by omega) la
    rw [← Vl_add cw] at la'
    refine ⟨zf, rfl, zh, rfl, zf, zh, xf, yf, xh, yh, rfl, pf.kt (Kt.of s15), ph.kt (Kt.of s15), lf.1, lh.1, wxf, wyf, wxh, wyh, fun zm xm ym H16 s16 pm lm => ?_⟩
    have lm' := fr_prod sx.2.1 sy.2.1 bp6 bt cs lf lh lm
    refine ⟨zh, rfl, sz (by simp), fun L nL => ?_⟩
    have s17 := same_new (o := .lst [zf, zh, za, zm, zh]) nL
    have s1417 := s15.trans (s16.trans s17)
    refine ⟨D, L, ys, [zf, zh, za, zm, zh], rfl, rfl, (s914.trans s1417) _ _ (s29 _ _ eD2), upd_same, sz (by simp; omega), fun D2 nD2 => ?_⟩
    have s18 := same_new (o := .lst (ys ++ [zf, zh, za, zm, zh])) nD2
    have s1418 := s1417.trans s18
    have eD18 : upd (upd H16 L (.lst [zf, zh, za, zm, zh])) D2 (.lst (ys ++ [zf, zh, za, zm, zh])) D2 = some (.lst (ys ++ [zf, zh, za, zm, zh])) := upd_same
    have D2a : D2 ≠ a := (w9.to (s914.trans s1417)).ne nD2
    have fa : FrE (m ^ 7 * l ^ 7) _ za (Vl n m kk l tw) := FrE.kt (Kt.of (s16.trans (s17.trans s18))) ⟨xa, ya, pa, la'⟩
    have fm : FrE (m ^ 7 * l ^ 7) _ zm (Vl n m kk l ts) := FrE.kt (Kt.of (s17.trans s18)) ⟨xm, ym, pm, lm'⟩
    generalize upd (upd H16 L (.lst [zf, zh, za, zm, zh])) D2 (.lst (ys ++ [zf, zh, za, zm, zh])) = G at s1418 eD18 fa fm ⊢
    have s9G := s914.trans s1418
    have s2G := s29.trans s9G
    have wG := w9.to s9G
    obtain ⟨da1, c1, c1', h1⟩ := fr_two wG wG E0 E2 vp (g1.kt (Kt.of s9G)) (gf.kt (Kt.of s9G))
    obtain ⟨da2, c2, c2', h2⟩ := fr_two wG wG E0 E2 vt (g2.kt (Kt.of s9G)) (gh.kt (Kt.of s9G))
    obtain ⟨da3, c3, c3', h3⟩ := fr_two wG wG E0 E2 (vl_wd sx sy (bd48 bw) (by decide)) (g3.kt (Kt.of s9G)) fa
    obtain ⟨da4, c4, c4', h4⟩ := fr_two wG wG E0 E2 (vl_wd sx sy bs (by decide)) (g4.kt (Kt.of s1418)) fm
    obtain ⟨da5, c5, c5', h5⟩ := fr_two wG wG E0 E2 vt (g5.kt (Kt.of s1418)) (gh.kt (Kt.of s9G))
    refine ⟨T3, D2, xs ++ [x1, x2, x3] ++ [x4, x5], ys ++ [zf, zh, za, zm, zh], ds ++ [da1, da2, da3, da4, da5], _, _, _, _, _, rfl, kH2.trans (Kp.of s2G), wG, pv2.kt (Kt.of s2G), pt2.kt (Kt.of s2G), pw2.kt (Kt.of s2G), ps2.kt (Kt.of s2G), T3a, D2a, s1418 _ _ eT14, eD18, ?_, ?_, ?_, ?_⟩
    · rw [List.append_assoc]
      exact (dT2.same s2G).append (.cons c1 (.cons c2 (.cons c3 (.cons c4 (.cons c5 .nil)))))
    · exact (dD2.same s2G).append (.cons c1' (.cons c2' (.cons c3' (.cons c4' (.cons c5' .nil)))))
    · exact (sh.app (Shl.cons h1 (Shl.cons h2 (Shl.cons h3 (Shl.cons h4 (Shl.cons h5 Shl.nil)))))).up (by omega)
    · rw [List.length_append, ld]
      simp
      omega
  · rintro σ H0 ⟨T, D, xs, ys, ds, o9, o10, o11, o12, o13, rfl, k0, w0, pv, pt, pw, ps, Ta, Dna, eT, eD, dT, dD, sh, ld⟩
    refine ⟨.ref T, rfl, show_list eT dT sh (by decide) ⟨.ref D, rfl, show_list eD dD sh (by decide) ⟨rfl, ?_⟩⟩⟩
    rw [decide_eq_true rfl]
    exact q H0 k0
end
end K22

set_option Elab.async false
set_option linter.all false
set_option maxRecDepth 100000
set_option maxHeartbeats 4000000
local macro_rules | `(tactic| walk_at "rd") => `(tactic| dsimp only [Evl.tCut, L2.tSeq, L2.tNext, L2.tRet, L2.tRetN, L2.tAsg, L2.gName, L2.tIfS, L2.tDrop, L2.tCons, L2.tNil, L2.tC, L2.tVar, L2.tCB, L2.tAndV, L2.tOrV, L2.tNotV, L2.tB, L2.tTest, L2.tOp, L2.tUn, L2.tNot, L2.tAnd, L2.tOr, L2.tIf, L2.tCall, L2.tTup, L2.tLst, L2.tNotT, L2.tYes, L2.gTup, L2.gCons, L2.gNil, L2.gSub, L2.tBM0, L2.tBM, L2.tWhile, L2.tFor, L2.iRng1, L2.iRng2, L2.tAugS, Tw.iEnumT, L2.tCKw, L2.tAug, L2.ipI, RT.iRevA, L2.tPar, L2.tPar3, L2.tSl, L2.tNoPart, L2.tPart, Tw.tRevT])
namespace K22
open PySem PySem.Spec PyProof.Rows L2 Tw
section
variable {P : Program} {w : World} {K : PySem.W.Frag} {mg : Str → Option Value} {base : Heap}
theorem scLaw : FnScope ["_law_script", "_law_at_here"] ["_law_script"] (defScope sLaw) := ⟨rfl, rfl, rfl, by decide +kernel, rfl, by decide +kernel, by decide +kernel⟩
theorem ok_law (D : Def K mg "law" sLaw ["_law_script"]) (nb : Nb mg) (c1 : Cal P w K mg base "_law_well" 1 ["_law_script", "_law_at_here"] (spWell K)) (c2 : CalG P w K mg base "_law_right" 7 ["_law_well_here"] spRight) :
    CalG P w K mg base "law" 8 ["_law_script"] (spLaw K) := by
  refine D.okG scLaw (fun vs H Q E h => ?_) (fun f cdv A out s H vs Q E hq hr h => ?_)
  · obtain ⟨p, ns, rfl, _⟩ := h; rfl
  obtain ⟨p, ns, rfl, hp, hl, q⟩ := h
  refine ⟨_, pss_one (ps_ret (pe_callB (id := "all") (r := rAll K) (cr_all rfl) (by rfl) nb.all (by decide +kernel) (pa_cons
    (pe_lc (own := [("_law_at_here", 1)]) (g := gName 1) (tt := tYes) rfl scLaw.nd (pi_range1 (by rfl) nb.rng (pa_cons (pe_callB (id := "max") (call_max2 rfl) (by rfl) nb.max (by decide +kernel) (pa_cons pe_int (pa_cons
        (pe_callB (id := "min") (call_min2 rfl) (by rfl) nb.min (by decide +kernel) (pa_cons (pe_callB (id := "len") call_len_seq (by rfl) nb.len PySem.boot_len (pa_cons (pv 0) pa_nil)) (pa_cons pe_int pa_nil))) pa_nil))) pa_nil))
      (blkOk_by (N := ["_law_script", "_law_at_here"]) (sc := defScope sLaw) (by decide +kernel)) (fun _ _ _ _ _ => pg_name (i := 1) scLaw.nd rfl (Or.inl rfl)) (fun _ _ _ _ _ => pts_nil)
      (fun _ _ _ _ _ => pe_calG c2 hq hr (by decide) (by rfl) (pa_cons (pe_cal c1 hr (by decide) (by rfl) (pa_cons (pv 0) (pa_cons (pv 1) pa_nil))) pa_nil))) pa_nil))), ?_⟩
  walk_at "rd"
  generalize hm : (if (4 : Int) < ((ns.map V.int).length : Int) then (4 : Int) else ((ns.map V.int).length : Int)) = m
  generalize hk : (if m > 2 then m else 2) = k
  have k0 : 2 ≤ k := by rw [← hk]; split <;> omega
  have k1 : k ≤ 4 := by
    have : m ≤ 4 := by rw [← hm]; split <;> omega
    rw [← hk]; split <;> omega
  refine lc_rng (n := k.toNat) (fun _ => V.bl true) (fun R hR => ?_) (by omega) (wipe1 _ 1) (fun i H1 hi s1 R kR => ?_) fun L H1 s1 nL hL => ?_
  · refine ⟨.ref p, rfl, p, _, rfl, .inl hp, _, _, rfl, _, _, rfl, k, ?_, by omega, by omega, hR⟩
    rw [hm, hk]
  · refine ⟨.ref p, rfl, .int (0 + (i : Int)), rfl, p, ns, _, rfl, s1.seq hp, hl, by omega, fun a H2 s2 na w2 => ⟨a, rfl, w2, fun H3 k3 => kR H3 (same_kp s2 na k3)⟩⟩
  · refine ⟨L, (List.range k.toNat).map (fun _ => true), rfl, SqL.of (by rw [List.map_map]; exact hL), ?_⟩
    have e : ((List.range k.toNat).map (fun _ => true)).all id = true := by
      rw [List.all_eq_true]
      intro b hb
      obtain ⟨_, _, rfl⟩ := List.mem_map.mp hb
      rfl
    rw [e]
    exact q H1
end
end K22

set_option Elab.async false
set_option linter.all false
set_option maxRecDepth 100000
namespace K22
open PySem PySem.Spec PyProof.Rows L2 Tw
theorem with_name {R : Prop} {K : PySem.W.Frag} {mg : Str → Option Value} {x : Str} {v : Value} {h : Heap} (X : K.In h) (G : h.Ns mainGlobals mg) (a : PySem.W.nsIn K mainGlobals x = some (some v)) (go : mg x = some v → R) : R := go (PySem.W.mg_of X G a)
/-- all defs and names, put together -/
theorem whole {P : Program} {w : World} {K : PySem.W.Frag} {mg : Str → Option Value} {base : Heap} (nb : Nb mg) (ne : mg "enumerate" = none)
    (ns : ∃ t, mg "SHORT" = some (.int 6 t))
    (d0 : Def K mg "is_whole" sWhole ["value"])
    (d1 : Def K mg "is_fraction" sIsFr ["value"])
    (d2 : Def K mg "fraction_of" sFracOf ["n", "m"])
    (d3 : Def K mg "power" sPower ["base", "many"])
    (d4 : Def K mg "fraction_sum" sFSum ["one", "other"])
    (d5 : Def K mg "fraction_product" sFProd ["one", "other"])
    (d6 : Def K mg "trimmed" sTrimmed ["numbers"])
    (d7 : Def K mg "row_sum" sPRSum ["row", "other"])
    (d8 : Def K mg "row_scaled" sPRScaled ["row", "whole"])
    (d9 : Def K mg "row_times" sPRTimes ["row", "other"])
    (d10 : Def K mg "scaled_value" sScaled ["row", "n", "m"])
    (d11 : Def K mg "row_value" sRValue ["row", "fraction"])
    (d12 : Def K mg "poly_trimmed" sPTrim ["rows"])
    (d13 : Def K mg "poly_plus" sPPlus ["poly", "other"])
    (d14 : Def K mg "poly_times" sPPTimes ["poly", "other"])
    (d15 : Def K mg "poly_exchanged" sPExch ["poly"])
    (d16 : Def K mg "poly_derived" sPDer ["poly"])
    (d17 : Def K mg "poly_value" sPValue ["poly", "x", "y"])
    (d18 : Def K mg "is_row" sRow ["value"])
    (d19 : Def K mg "is_poly" sPoly ["value"])
    (d20 : Def K mg "check_poly" sChkP ["poly"])
    (d21 : Def K mg "check_two_polys" sChkTwo ["poly", "other"])
    (d22 : Def K mg "check_fraction" sChkF ["fraction"])
    (d23 : Def K mg "poly_sum" sApSum ["poly", "other"])
    (d24 : Def K mg "poly_product" sApProd ["poly", "other"])
    (d25 : Def K mg "exchanged" sApExch ["poly"])
    (d26 : Def K mg "derived" sApDer ["poly"])
    (d27 : Def K mg "value_at" sApVal ["poly", "x", "y"])
    (d28 : Def K mg "_law_well" sWell ["_law_script", "_law_at_here"])
    (d29 : Def K mg "_law_draw" sDraw ["_law_well_here", "_law_many"])
    (d30 : Def K mg "_law_common" sCommon ["_law_one", "_law_two"])
    (d31 : Def K mg "_law_lean" sLean ["_law_top", "_law_low"])
    (d32 : Def K mg "_law_add" sAdd ["_law_one", "_law_two"])
    (d33 : Def K mg "_law_mul" sMul ["_law_one", "_law_two"])
    (d34 : Def K mg "_law_trim" sTrim ["_law_some"])
    (d35 : Def K mg "_law_scaled" sLScaled ["_law_row_here", "_law_by"])
    (d36 : Def K mg "_law_row_sum" sRSum ["_law_one", "_law_two"])
    (d37 : Def K mg "_law_row_times" sRTimes ["_law_one", "_law_two"])
    (d38 : Def K mg "_law_poly_sum" sPSum ["_law_one", "_law_two"])
    (d39 : Def K mg "_law_poly_times" sPTimes ["_law_one", "_law_two"])
    (d40 : Def K mg "_law_number" sNum ["_law_well_here"])
    (d41 : Def K mg "_law_row" sLRow ["_law_well_here", "_law_many"])
    (d42 : Def K mg "_law_poly" sLPoly ["_law_well_here", "_law_many"])
    (d43 : Def K mg "_law_at" sAt ["_law_row_here", "_law_spot"])
    (d44 : Def K mg "_law_small" sSmall ["_law_well_here"])
    (d45 : Def K mg "_law_turned" sTurned ["_law_some"])
    (d46 : Def K mg "_law_led" sLed ["_law_some"])
    (d47 : Def K mg "_law_worth" sWorth ["_law_some", "_law_here", "_law_there"])
    (d48 : Def K mg "_law_at_all" sAtAll ["_law_some", "_law_spot"])
    (d49 : Def K mg "_law_right" sRight ["_law_well_here"])
    (d50 : Def K mg "law" sLaw ["_law_script"])
    : CalG P w K mg base "law" 8 ["_law_script"] (spLaw K) := by
  have c_whole := ok_whole (P := P) (w := w) (base := base) d0 nb
  have c_isfr := ok_isfr d1 nb c_whole
  have c_fracof := ok_fracof (P := P) (w := w) (base := base) d2 nb
  have c_power := ok_power (P := P) (w := w) (base := base) d3
  have c_fsum := ok_fsum d4 c_fracof
  have c_fprod := ok_fprod d5 c_fracof
  have c_trimmed := ok_trimmed (P := P) (w := w) (base := base) d6 nb
  have c_prsum := ok_prsum d7 nb ne c_trimmed
  have c_prscaled := ok_prscaled (P := P) (w := w) (base := base) d8 nb
  have c_prtimes := ok_prtimes (P := P) (w := w) (base := base) d9 nb ne ns
  have c_scaled := ok_scaled (P := P) (w := w) (base := base) d10 nb
  have c_rval := ok_rval d11 nb c_fracof c_scaled c_power
  have c_ptrim := ok_ptrim (P := P) (w := w) (base := base) d12 nb
  have c_pplus := ok_pplus d13 nb ne c_prsum c_ptrim
  have c_pptimes := ok_pptimes d14 nb ne c_prsum c_prtimes
  have c_pexch := ok_pexch d15 nb c_trimmed c_ptrim
  have c_pder := ok_pder d16 nb ne c_prscaled
  have c_pval := ok_pval d17 nb c_fsum c_fprod c_rval
  have c_row := ok_row d18 nb c_whole
  have c_poly := ok_poly d19 nb c_row
  have c_chkp := ok_chkp d20 c_poly
  have c_chktwo := ok_chktwo d21 c_chkp
  have c_chkf := ok_chkf d22 c_isfr
  have c_apsum := ok_apsum d23 c_chktwo c_pplus
  have c_approd := ok_approd d24 c_chktwo c_pptimes
  have c_apexch := ok_apexch d25 c_chkp c_pexch
  have c_apder := ok_apder d26 c_chkp c_pder
  have c_apval := ok_apval d27 c_chkp c_chkf c_pval
  have c_well := ok_well (P := P) (w := w) (base := base) d28 nb
  have c_draw := ok_draw (P := P) (w := w) (base := base) d29 nb
  have c_common := ok_common (P := P) (w := w) (base := base) d30 nb
  have c_lean := ok_lean d31 c_common
  have c_leanW := ok_leanW d31 c_common
  have c_add := ok_add d32 c_lean
  have c_mul := ok_mul d33 c_lean
  have c_addW := ok_addW d32 c_leanW
  have c_mulW := ok_mulW d33 c_leanW
  have c_trim := ok_trim (P := P) (w := w) (base := base) d34 nb
  have c_lscaled := ok_lscaled d35 c_trim
  have c_rsum := ok_rsum d36 nb c_trim
  have c_rtimes := ok_rtimes d37 nb c_trim
  have c_psum := ok_psum d38 nb c_trim c_rsum
  have c_ptimes := ok_ptimes d39 nb c_trim c_rsum c_rtimes
  have c_num := ok_num d40 c_draw
  have c_lrow := ok_lrow d41 nb c_draw c_num (c_trim.imp trim_int)
  have c_lpoly := ok_lpoly d42 nb c_draw c_lrow (c_trim.imp trim_rows)
  have c_att := ok_at d43 nb c_add c_mul
  have c_small := ok_small d44 c_draw c_lean
  have c_turned := ok_turned d45 nb c_trim
  have c_led := ok_led d46 nb c_trim c_lscaled
  have c_atall := ok_atall d48 nb c_addW c_mulW
  have c_worth := ok_worth d47 c_atall c_att
  have c_right := ok_right d49 nb d24 d27 c_lpoly c_draw c_small (c_trim.imp trim_rows) c_lscaled c_psum c_ptimes c_turned c_led c_worth c_addW c_mulW c_apsum c_approd c_apexch c_apder c_apval
  exact ok_law d50 nb c_well c_right
end K22
open PySem PySem.W PyProof.Rows
set_option maxHeartbeats 0 in
theorem PySem.Challenge.cw_twoletters_k22_whole_sums_products_value_holds : PySem.Challenge.rw_twoletters_k22_whole_sums_products_value.Holds := by
  w_on; o_law; k_head; (case hw => w_witness2)
  k_fill
  refine Tw.walk_quiet (l := PySem.Challenge.rw_twoletters_k22_whole_sums_products_value) (n := 63) (k := 8) (x := "_law_script") (sp := K22.spLaw) rfl (by decide) rfl ⟨rfl, by decide, by decide⟩ (fun w h Y => PySem.W.kIn_of Y) ?F
    (fun K H a ns hl _ hS => ⟨a, ns, rfl, hS, hl, fun _ => rfl⟩)
  case F =>
    intro w mg fa h KX G hmg
    refine' Tw.with_def (x := "is_whole") (st := K22.sWhole) (ps := ["value"]) KX G ?a ?l ?c ?k (fun _ _ _ _ _ _ us hl => match us, hl with | [_], _ => rfl) (fun d0 => ?_)
    (case a => k_is); (case l => k_is); (case c => k_is); (case k => k_is)
    refine' Tw.with_def (x := "is_fraction") (st := K22.sIsFr) (ps := ["value"]) KX G ?a ?l ?c ?k (fun _ _ _ _ _ _ us hl => match us, hl with | [_], _ => rfl) (fun d1 => ?_)
    (case a => k_is); (case l => k_is); (case c => k_is); (case k => k_is)
    refine' Tw.with_def (x := "fraction_of") (st := K22.sFracOf) (ps := ["n", "m"]) KX G ?a ?l ?c ?k (fun _ _ _ _ _ _ us hl => match us, hl with | [_, _], _ => rfl) (fun d2 => ?_)
    (case a => k_is); (case l => k_is); (case c => k_is); (case k => k_is)
    refine' Tw.with_def (x := "power") (st := K22.sPower) (ps := ["base", "many"]) KX G ?a ?l ?c ?k (fun _ _ _ _ _ _ us hl => match us, hl with | [_, _], _ => rfl) (fun d3 => ?_)
    (case a => k_is); (case l => k_is); (case c => k_is); (case k => k_is)
    refine' Tw.with_def (x := "fraction_sum") (st := K22.sFSum) (ps := ["one", "other"]) KX G ?a ?l ?c ?k (fun _ _ _ _ _ _ us hl => match us, hl with | [_, _], _ => rfl) (fun d4 => ?_)
    (case a => k_is); (case l => k_is); (case c => k_is); (case k => k_is)
    refine' Tw.with_def (x := "fraction_product") (st := K22.sFProd) (ps := ["one", "other"]) KX G ?a ?l ?c ?k (fun _ _ _ _ _ _ us hl => match us, hl with | [_, _], _ => rfl) (fun d5 => ?_)
    (case a => k_is); (case l => k_is); (case c => k_is); (case k => k_is)
    refine' Tw.with_def (x := "trimmed") (st := K22.sTrimmed) (ps := ["numbers"]) KX G ?a ?l ?c ?k (fun _ _ _ _ _ _ us hl => match us, hl with | [_], _ => rfl) (fun d6 => ?_)
    (case a => k_is); (case l => k_is); (case c => k_is); (case k => k_is)
    refine' Tw.with_def (x := "row_sum") (st := K22.sPRSum) (ps := ["row", "other"]) KX G ?a ?l ?c ?k (fun _ _ _ _ _ _ us hl => match us, hl with | [_, _], _ => rfl) (fun d7 => ?_)
    (case a => k_is); (case l => k_is); (case c => k_is); (case k => k_is)
    refine' Tw.with_def (x := "row_scaled") (st := K22.sPRScaled) (ps := ["row", "whole"]) KX G ?a ?l ?c ?k (fun _ _ _ _ _ _ us hl => match us, hl with | [_, _], _ => rfl) (fun d8 => ?_)
    (case a => k_is); (case l => k_is); (case c => k_is); (case k => k_is)
    refine' Tw.with_def (x := "row_times") (st := K22.sPRTimes) (ps := ["row", "other"]) KX G ?a ?l ?c ?k (fun _ _ _ _ _ _ us hl => match us, hl with | [_, _], _ => rfl) (fun d9 => ?_)
    (case a => k_is); (case l => k_is); (case c => k_is); (case k => k_is)
    refine' Tw.with_def (x := "scaled_value") (st := K22.sScaled) (ps := ["row", "n", "m"]) KX G ?a ?l ?c ?k (fun _ _ _ _ _ _ us hl => match us, hl with | [_, _, _], _ => rfl) (fun d10 => ?_)
    (case a => k_is); (case l => k_is); (case c => k_is); (case k => k_is)
    refine' Tw.with_def (x := "row_value") (st := K22.sRValue) (ps := ["row", "fraction"]) KX G ?a ?l ?c ?k (fun _ _ _ _ _ _ us hl => match us, hl with | [_, _], _ => rfl) (fun d11 => ?_)
    (case a => k_is); (case l => k_is); (case c => k_is); (case k => k_is)
    refine' Tw.with_def (x := "poly_trimmed") (st := K22.sPTrim) (ps := ["rows"]) KX G ?a ?l ?c ?k (fun _ _ _ _ _ _ us hl => match us, hl with | [_], _ => rfl) (fun d12 => ?_)
    (case a => k_is); (case l => k_is); (case c => k_is); (case k => k_is)
    refine' Tw.with_def (x := "poly_plus") (st := K22.sPPlus) (ps := ["poly", "other"]) KX G ?a ?l ?c ?k (fun _ _ _ _ _ _ us hl => match us, hl with | [_, _], _ => rfl) (fun d13 => ?_)
    (case a => k_is); (case l => k_is); (case c => k_is); (case k => k_is)
    refine' Tw.with_def (x := "poly_times") (st := K22.sPPTimes) (ps := ["poly", "other"]) KX G ?a ?l ?c ?k (fun _ _ _ _ _ _ us hl => match us, hl with | [_, _], _ => rfl) (fun d14 => ?_)
    (case a => k_is); (case l => k_is); (case c => k_is); (case k => k_is)
    refine' Tw.with_def (x := "poly_exchanged") (st := K22.sPExch) (ps := ["poly"]) KX G ?a ?l ?c ?k (fun _ _ _ _ _ _ us hl => match us, hl with | [_], _ => rfl) (fun d15 => ?_)
    (case a => k_is); (case l => k_is); (case c => k_is); (case k => k_is)
    refine' Tw.with_def (x := "poly_derived") (st := K22.sPDer) (ps := ["poly"]) KX G ?a ?l ?c ?k (fun _ _ _ _ _ _ us hl => match us, hl with | [_], _ => rfl) (fun d16 => ?_)
    (case a => k_is); (case l => k_is); (case c => k_is); (case k => k_is)
    refine' Tw.with_def (x := "poly_value") (st := K22.sPValue) (ps := ["poly", "x", "y"]) KX G ?a ?l ?c ?k (fun _ _ _ _ _ _ us hl => match us, hl with | [_, _, _], _ => rfl) (fun d17 => ?_)
    (case a => k_is); (case l => k_is); (case c => k_is); (case k => k_is)
    refine' Tw.with_def (x := "is_row") (st := K22.sRow) (ps := ["value"]) KX G ?a ?l ?c ?k (fun _ _ _ _ _ _ us hl => match us, hl with | [_], _ => rfl) (fun d18 => ?_)
    (case a => k_is); (case l => k_is); (case c => k_is); (case k => k_is)
    refine' Tw.with_def (x := "is_poly") (st := K22.sPoly) (ps := ["value"]) KX G ?a ?l ?c ?k (fun _ _ _ _ _ _ us hl => match us, hl with | [_], _ => rfl) (fun d19 => ?_)
    (case a => k_is); (case l => k_is); (case c => k_is); (case k => k_is)
    refine' Tw.with_def (x := "check_poly") (st := K22.sChkP) (ps := ["poly"]) KX G ?a ?l ?c ?k (fun _ _ _ _ _ _ us hl => match us, hl with | [_], _ => rfl) (fun d20 => ?_)
    (case a => k_is); (case l => k_is); (case c => k_is); (case k => k_is)
    refine' Tw.with_def (x := "check_two_polys") (st := K22.sChkTwo) (ps := ["poly", "other"]) KX G ?a ?l ?c ?k (fun _ _ _ _ _ _ us hl => match us, hl with | [_, _], _ => rfl) (fun d21 => ?_)
    (case a => k_is); (case l => k_is); (case c => k_is); (case k => k_is)
    refine' Tw.with_def (x := "check_fraction") (st := K22.sChkF) (ps := ["fraction"]) KX G ?a ?l ?c ?k (fun _ _ _ _ _ _ us hl => match us, hl with | [_], _ => rfl) (fun d22 => ?_)
    (case a => k_is); (case l => k_is); (case c => k_is); (case k => k_is)
    refine' Tw.with_def (x := "poly_sum") (st := K22.sApSum) (ps := ["poly", "other"]) KX G ?a ?l ?c ?k (fun _ _ _ _ _ _ us hl => match us, hl with | [_, _], _ => rfl) (fun d23 => ?_)
    (case a => k_is); (case l => k_is); (case c => k_is); (case k => k_is)
    refine' Tw.with_def (x := "poly_product") (st := K22.sApProd) (ps := ["poly", "other"]) KX G ?a ?l ?c ?k (fun _ _ _ _ _ _ us hl => match us, hl with | [_, _], _ => rfl) (fun d24 => ?_)
    (case a => k_is); (case l => k_is); (case c => k_is); (case k => k_is)
    refine' Tw.with_def (x := "exchanged") (st := K22.sApExch) (ps := ["poly"]) KX G ?a ?l ?c ?k (fun _ _ _ _ _ _ us hl => match us, hl with | [_], _ => rfl) (fun d25 => ?_)
    (case a => k_is); (case l => k_is); (case c => k_is); (case k => k_is)
    refine' Tw.with_def (x := "derived") (st := K22.sApDer) (ps := ["poly"]) KX G ?a ?l ?c ?k (fun _ _ _ _ _ _ us hl => match us, hl with | [_], _ => rfl) (fun d26 => ?_)
    (case a => k_is); (case l => k_is); (case c => k_is); (case k => k_is)
    refine' Tw.with_def (x := "value_at") (st := K22.sApVal) (ps := ["poly", "x", "y"]) KX G ?a ?l ?c ?k (fun _ _ _ _ _ _ us hl => match us, hl with | [_, _, _], _ => rfl) (fun d27 => ?_)
    (case a => k_is); (case l => k_is); (case c => k_is); (case k => k_is)
    refine' Tw.with_def (x := "_law_well") (st := K22.sWell) (ps := ["_law_script", "_law_at_here"]) KX G ?a ?l ?c ?k (fun _ _ _ _ _ _ us hl => match us, hl with | [_, _], _ => rfl) (fun d28 => ?_)
    (case a => k_is); (case l => k_is); (case c => k_is); (case k => k_is)
    refine' Tw.with_def (x := "_law_draw") (st := K22.sDraw) (ps := ["_law_well_here", "_law_many"]) KX G ?a ?l ?c ?k (fun _ _ _ _ _ _ us hl => match us, hl with | [_, _], _ => rfl) (fun d29 => ?_)
    (case a => k_is); (case l => k_is); (case c => k_is); (case k => k_is)
    refine' Tw.with_def (x := "_law_common") (st := K22.sCommon) (ps := ["_law_one", "_law_two"]) KX G ?a ?l ?c ?k (fun _ _ _ _ _ _ us hl => match us, hl with | [_, _], _ => rfl) (fun d30 => ?_)
    (case a => k_is); (case l => k_is); (case c => k_is); (case k => k_is)
    refine' Tw.with_def (x := "_law_lean") (st := K22.sLean) (ps := ["_law_top", "_law_low"]) KX G ?a ?l ?c ?k (fun _ _ _ _ _ _ us hl => match us, hl with | [_, _], _ => rfl) (fun d31 => ?_)
    (case a => k_is); (case l => k_is); (case c => k_is); (case k => k_is)
    refine' Tw.with_def (x := "_law_add") (st := K22.sAdd) (ps := ["_law_one", "_law_two"]) KX G ?a ?l ?c ?k (fun _ _ _ _ _ _ us hl => match us, hl with | [_, _], _ => rfl) (fun d32 => ?_)
    (case a => k_is); (case l => k_is); (case c => k_is); (case k => k_is)
    refine' Tw.with_def (x := "_law_mul") (st := K22.sMul) (ps := ["_law_one", "_law_two"]) KX G ?a ?l ?c ?k (fun _ _ _ _ _ _ us hl => match us, hl with | [_, _], _ => rfl) (fun d33 => ?_)
    (case a => k_is); (case l => k_is); (case c => k_is); (case k => k_is)
    refine' Tw.with_def (x := "_law_trim") (st := K22.sTrim) (ps := ["_law_some"]) KX G ?a ?l ?c ?k (fun _ _ _ _ _ _ us hl => match us, hl with | [_], _ => rfl) (fun d34 => ?_)
    (case a => k_is); (case l => k_is); (case c => k_is); (case k => k_is)
    refine' Tw.with_def (x := "_law_scaled") (st := K22.sLScaled) (ps := ["_law_row_here", "_law_by"]) KX G ?a ?l ?c ?k (fun _ _ _ _ _ _ us hl => match us, hl with | [_, _], _ => rfl) (fun d35 => ?_)
    (case a => k_is); (case l => k_is); (case c => k_is); (case k => k_is)
    refine' Tw.with_def (x := "_law_row_sum") (st := K22.sRSum) (ps := ["_law_one", "_law_two"]) KX G ?a ?l ?c ?k (fun _ _ _ _ _ _ us hl => match us, hl with | [_, _], _ => rfl) (fun d36 => ?_)
    (case a => k_is); (case l => k_is); (case c => k_is); (case k => k_is)
    refine' Tw.with_def (x := "_law_row_times") (st := K22.sRTimes) (ps := ["_law_one", "_law_two"]) KX G ?a ?l ?c ?k (fun _ _ _ _ _ _ us hl => match us, hl with | [_, _], _ => rfl) (fun d37 => ?_)
    (case a => k_is); (case l => k_is); (case c => k_is); (case k => k_is)
    refine' Tw.with_def (x := "_law_poly_sum") (st := K22.sPSum) (ps := ["_law_one", "_law_two"]) KX G ?a ?l ?c ?k (fun _ _ _ _ _ _ us hl => match us, hl with | [_, _], _ => rfl) (fun d38 => ?_)
    (case a => k_is); (case l => k_is); (case c => k_is); (case k => k_is)
    refine' Tw.with_def (x := "_law_poly_times") (st := K22.sPTimes) (ps := ["_law_one", "_law_two"]) KX G ?a ?l ?c ?k (fun _ _ _ _ _ _ us hl => match us, hl with | [_, _], _ => rfl) (fun d39 => ?_)
    (case a => k_is); (case l => k_is); (case c => k_is); (case k => k_is)
    refine' Tw.with_def (x := "_law_number") (st := K22.sNum) (ps := ["_law_well_here"]) KX G ?a ?l ?c ?k (fun _ _ _ _ _ _ us hl => match us, hl with | [_], _ => rfl) (fun d40 => ?_)
    (case a => k_is); (case l => k_is); (case c => k_is); (case k => k_is)
    refine' Tw.with_def (x := "_law_row") (st := K22.sLRow) (ps := ["_law_well_here", "_law_many"]) KX G ?a ?l ?c ?k (fun _ _ _ _ _ _ us hl => match us, hl with | [_, _], _ => rfl) (fun d41 => ?_)
    (case a => k_is); (case l => k_is); (case c => k_is); (case k => k_is)
    refine' Tw.with_def (x := "_law_poly") (st := K22.sLPoly) (ps := ["_law_well_here", "_law_many"]) KX G ?a ?l ?c ?k (fun _ _ _ _ _ _ us hl => match us, hl with | [_, _], _ => rfl) (fun d42 => ?_)
    (case a => k_is); (case l => k_is); (case c => k_is); (case k => k_is)
    refine' Tw.with_def (x := "_law_at") (st := K22.sAt) (ps := ["_law_row_here", "_law_spot"]) KX G ?a ?l ?c ?k (fun _ _ _ _ _ _ us hl => match us, hl with | [_, _], _ => rfl) (fun d43 => ?_)
    (case a => k_is); (case l => k_is); (case c => k_is); (case k => k_is)
    refine' Tw.with_def (x := "_law_small") (st := K22.sSmall) (ps := ["_law_well_here"]) KX G ?a ?l ?c ?k (fun _ _ _ _ _ _ us hl => match us, hl with | [_], _ => rfl) (fun d44 => ?_)
    (case a => k_is); (case l => k_is); (case c => k_is); (case k => k_is)
    refine' Tw.with_def (x := "_law_turned") (st := K22.sTurned) (ps := ["_law_some"]) KX G ?a ?l ?c ?k (fun _ _ _ _ _ _ us hl => match us, hl with | [_], _ => rfl) (fun d45 => ?_)
    (case a => k_is); (case l => k_is); (case c => k_is); (case k => k_is)
    refine' Tw.with_def (x := "_law_led") (st := K22.sLed) (ps := ["_law_some"]) KX G ?a ?l ?c ?k (fun _ _ _ _ _ _ us hl => match us, hl with | [_], _ => rfl) (fun d46 => ?_)
    (case a => k_is); (case l => k_is); (case c => k_is); (case k => k_is)
    refine' Tw.with_def (x := "_law_worth") (st := K22.sWorth) (ps := ["_law_some", "_law_here", "_law_there"]) KX G ?a ?l ?c ?k (fun _ _ _ _ _ _ us hl => match us, hl with | [_, _, _], _ => rfl) (fun d47 => ?_)
    (case a => k_is); (case l => k_is); (case c => k_is); (case k => k_is)
    refine' Tw.with_def (x := "_law_at_all") (st := K22.sAtAll) (ps := ["_law_some", "_law_spot"]) KX G ?a ?l ?c ?k (fun _ _ _ _ _ _ us hl => match us, hl with | [_, _], _ => rfl) (fun d48 => ?_)
    (case a => k_is); (case l => k_is); (case c => k_is); (case k => k_is)
    refine' Tw.with_def (x := "_law_right") (st := K22.sRight) (ps := ["_law_well_here"]) KX G ?a ?l ?c ?k (fun _ _ _ _ _ _ us hl => match us, hl with | [_], _ => rfl) (fun d49 => ?_)
    (case a => k_is); (case l => k_is); (case c => k_is); (case k => k_is)
    refine' Tw.with_def (x := "law") (st := K22.sLaw) (ps := ["_law_script"]) KX G ?a ?l ?c ?k (fun _ _ _ _ _ _ us hl => match us, hl with | [_], _ => rfl) (fun d50 => ?_)
    (case a => k_is); (case l => k_is); (case c => k_is); (case k => k_is)
    refine' Tw.with_no (x := "isinstance") KX G ?z (fun z0 => ?_)
    (case z => k_is)
    refine' Tw.with_no (x := "int") KX G ?z (fun z1 => ?_)
    (case z => k_is)
    refine' Tw.with_no (x := "bool") KX G ?z (fun z2 => ?_)
    (case z => k_is)
    refine' Tw.with_no (x := "tuple") KX G ?z (fun z3 => ?_)
    (case z => k_is)
    refine' Tw.with_no (x := "all") KX G ?z (fun z4 => ?_)
    (case z => k_is)
    refine' Tw.with_no (x := "len") KX G ?z (fun z5 => ?_)
    (case z => k_is)
    refine' Tw.with_no (x := "list") KX G ?z (fun z6 => ?_)
    (case z => k_is)
    refine' Tw.with_no (x := "divmod") KX G ?z (fun z7 => ?_)
    (case z => k_is)
    refine' Tw.with_no (x := "range") KX G ?z (fun z8 => ?_)
    (case z => k_is)
    refine' Tw.with_no (x := "max") KX G ?z (fun z9 => ?_)
    (case z => k_is)
    refine' Tw.with_no (x := "min") KX G ?z (fun z10 => ?_)
    (case z => k_is)
    refine' Tw.with_no (x := "abs") KX G ?z (fun z11 => ?_)
    (case z => k_is)
    refine' Tw.with_no (x := "repr") KX G ?z (fun z12 => ?_)
    (case z => k_is)
    refine' Tw.with_no (x := "reversed") KX G ?z (fun z13 => ?_)
    (case z => k_is)
    refine' Tw.with_no (x := "enumerate") KX G ?z (fun z14 => ?_)
    (case z => k_is)
    refine' K22.with_name (x := "gcd") (v := .builtin "math.gcd") KX G ?z (fun n_gc => ?_)
    (case z => k_is)
    refine' K22.with_name (x := "SHORT") (v := .int 6 430) KX G ?z (fun n_ns => ?_)
    (case z => k_is)
    exact Tw.end_law d50 hmg (fun base => K22.whole ⟨z0, z1, z2, z3, z4, z5, z6, z7, z8, z9, z10, z11, z12, z13, n_gc⟩ z14 ⟨_, n_ns⟩ d0 d1 d2 d3 d4 d5 d6 d7 d8 d9 d10 d11 d12 d13 d14 d15 d16 d17 d18 d19 d20 d21 d22 d23 d24 d25 d26 d27 d28 d29 d30 d31 d32 d33 d34 d35 d36 d37 d38 d39 d40 d41 d42 d43 d44 d45 d46 d47 d48 d49 d50) (fun _ _ _ _ _ _ _ => rfl)
