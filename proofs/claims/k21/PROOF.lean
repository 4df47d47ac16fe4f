import PyProof.Rows.All
import Wide.All
import OpenK.AllK
import Wide.FinOn
import HandS.ForMost
import HandS.IsInst
import HandS.TupAny
import HandS.Flow
import HandS.Evl
import PySem.Challenge.RW_twoletters_k21_polys_of_anything
set_option Elab.async false
set_option linter.all false
set_option maxRecDepth 100000
set_option maxHeartbeats 4000000
/-! a def's promise where no container is being written out (for repr) -/
namespace Tw
open PySem PySem.Spec PyProof.Rows L2

/-- nothing is being written out around here -/
abbrev Qt (A : Around) : Prop := A.guards = some []

structure FnG (P : Program) (w : World) (K : PySem.W.Frag) (mg : Str → Option Value) (base : Heap) (k : Nat) (f : Addr)
    (fd : FuncData) (ps : List Str) (sp : Sp) : Prop where
  many : ∀ vs H Q E, sp vs H Q E → vs.length = ps.length
  goes : ∀ (A : Around) (out : List Env) (s : Shared) (H : Hp) (g : Args) (us : List Value) (vs : List V) (Q : VK) (E : XK),
    Qt A → Room k A → Env0 P w K mg base A out s H → BindsTo s fd g (ps.zip us) → Vals vs us → sp vs H Q E →
    codeAny (model P w) A (.call (.ref f) g) (CR CX0 out P w H s Q E) s

section
variable {P : Program} {w : World} {K : PySem.W.Frag} {mg : Str → Option Value} {base : Heap} {k j : Nat} {f : Addr}
  {fd : FuncData} {ps : List Str} {sp : Sp}
theorem FnG.of (F : FnOk P w K mg base CX0 k f fd ps sp) : FnG P w K mg base k f fd ps sp :=
  ⟨F.len, fun A out s H g us vs Q E _ hr => F.run A out s H g us vs Q E hr⟩
theorem FnG.up (F : FnG P w K mg base j f fd ps sp) (h : j ≤ k) : FnG P w K mg base k f fd ps sp :=
  ⟨F.many, fun A out s H g us vs Q E hq hr => F.goes A out s H g us vs Q E hq (hr.mono h)⟩
theorem FnG.imp {sp' : Sp} (F : FnG P w K mg base k f fd ps sp) (h : ∀ vs H Q E, sp' vs H Q E → sp vs H Q E) :
    FnG P w K mg base k f fd ps sp' :=
  ⟨fun vs H Q E q => F.many vs H Q E (h _ _ _ _ q),
   fun A out s H g us vs Q E hq hr he hb hv hs => F.goes A out s H g us vs Q E hq hr he hb hv (h _ _ _ _ hs)⟩

/-- a def by its body, the place where it runs being quiet -/
theorem Fun.okG {x qual : Str} {st : Stmt} {N : List Str} (F : Fun K x qual st f fd) (S : FnScope N ps (defScope st))
    (many : ∀ vs H Q E, sp vs H Q E → vs.length = ps.length)
    (hbody : ∀ (cdv : Value) (A : Around) (out : List Env) (s : Shared) (H : Hp) (vs : List V) (Q : VK) (E : XK),
      Qt (A.deeper (envOfC qual (defScope st) s.heap.objs.size f cdv)) →
      Room k (A.deeper (envOfC qual (defScope st) s.heap.objs.size f cdv)) → sp vs H Q E →
      ∃ t, PSs (cxOf CX0 P w K mg base N qual (defScope st) f cdv A out s H E).nox (defBody st) t ∧
        t { nx := fun _ H' => Q .non H', rt := Q } (start N vs) H) : FnG P w K mg base (k + 1) f fd ps sp := by
  obtain ⟨oc, od, kV, doc, pm, an, cdv, ct, osl, rfl, lk, hcd⟩ := F.ex
  refine ⟨many, fun A out s H g us vs Q E hq hr e0 hb r hsp => ?_⟩
  have hlen : vs.length = ps.length := many _ _ _ _ hsp
  have inS : ∀ b o, base.get? b = some o → s.heap.get? b = some o := fun b o e => (e0.bs b o e).1
  have kx : K.In s.heap := e0.mod.kin.keeps inS
  have nolim : s.heap.NoLimit := e0.mod.nolimit.keeps inS
  have kinds : ∀ y ∈ ps.zip us, (defScope st).names.lookup y.1 = some .local ∨
      ((defScope st).names.lookup y.1 = some .cell ∧
        ((cellsFrom (s.heap.objs.size + 1) (defScope st).names []).lookup y.1).isSome = true) := by
    rintro ⟨n, v⟩ hy
    cases S.par n (List.of_mem_zip hy).1 with
    | inl q => exact Or.inl q
    | inr q => exact Or.inr ⟨q, PySem.W.cellsFrom_some _ _ _ (Or.inl q)⟩
  have rec1 := PySem.W.codeRec_of kx hcd
  refine codeAny_call_function hr.depth (kx _ _ lk) rfl S.co S.gen rfl rec1 (hb _ _ _ _ ?_)
  refine wpAny_newFunctionEnv_cells S.kind kinds fun env he s1 x => ?_
  subst he
  refine ⟨nolim.keeps x.toInCall.keep, codeAny_func ?_⟩
  have hq' : Qt (A.deeper (envOfC qual (defScope st) s.heap.objs.size f cdv)) := hq
  obtain ⟨t, ht, hw⟩ := hbody cdv A out s H vs Q E hq' (hr.deeper _) hsp
  have I := inv_start (CX := CX0) (cd := cdv) (E := E) (f := f) (qual := qual) S hr.hd e0 hlen r x
  refine wpAny_mono (ht.nox.run [] s1 (start N vs) H _ I hw) (fun fl s' hs => ?_) fun e s' hs => hs
  cases fl with
  | ret u => obtain ⟨v, σ', H', J, rv, q⟩ := hs; exact ⟨v, H', J.os, J.bare, J.base, J.hok, rv, q⟩
  | next => obtain ⟨σ', H', J, q⟩ := hs; exact ⟨V.non, H', J.os, J.bare, J.base, J.hok, rfl, q⟩
  | brk => obtain ⟨_, _, _, q⟩ := hs; exact q.elim
  | cont => obtain ⟨_, _, _, q⟩ := hs; exact q.elim
end

section
variable {X : Cx} {k : Nat} {f : Addr} {fd : FuncData} {ps : List Str} {sp : Sp} {x : Str} {p pos : Pos} {e : Expr}
  {es : List Expr} {t : TA}
/-- f(e, ..), f a def that wants quiet -/
theorem pe_callG (F : FnG X.prog X.w X.K X.mg X.base k f fd ps sp) (hq : Qt X.A) (hr : Room k X.A) (hg : Gl X x)
    (hm : X.mg x = some (.ref f)) (hk : PySem.W.keepIn X.K (.ref f) = true) (hb : Binds X.K fd ps [])
    (ha : PA X (e :: es) t) (hdb : (x == ("__debug__" : Str)) = false := by decide)
    (he : starEach (e :: es) X.env = (false, eval e X.env) :: starEach es X.env := by rfl)
    (hpl : (backTo pos (starEach es X.env)).any (·.1) = false := by rfl) :
    PE X (.Call (.Name x p) (e :: es) [] pos) (tCall sp [] E0 t) := by
  refine ⟨fun pins s σ H Q I h => wpAny_Call_Name_kw (ld_glob I hg hm ?_ hdb)⟩
  refine PySem.W.callWith_K (h₀ := X.base) I.ok.mod.kin hk ?_ he hpl
  refine thn (ha.run pos pins s σ H _ I h) ?_
  rintro us s1 ⟨vs, H1, I1, r, q⟩
  refine ⟨I1.kIn, wpAny_call ?_⟩
  have q' : sp vs H1 Q E0 := by simpa using q
  have hl : us.length = ps.length := by rw [← Vals.length r]; exact F.many _ _ _ _ q'
  have b := hb s1 us I1.kIn (by simpa using hl)
  rw [List.append_nil] at b
  refine codeAny_mono (F.goes X.A X.stack s1 H1 ⟨us, []⟩ us vs Q E0 hq hr I1.env0 b r q') fun r s' hh => ?_
  cases r with
  | error z => exact False.elim hh
  | ok fl =>
    cases fl with
    | ret u => exact I1.after hh
    | next => exact False.elim hh
    | brk => exact False.elim hh
    | cont => exact False.elim hh
end
end Tw

set_option Elab.async false
set_option linter.all false
set_option maxRecDepth 100000
set_option maxHeartbeats 4000000
/-! the end of a law whose def wants quiet -/
namespace Tw
open PySem PySem.Spec PyProof.Rows L2

/-- a promise wide enough that says nothing of exceptions, over a heap in which the script alone may be known -/
theorem law_quiet {P : Program} {w : World} {K : PySem.W.Frag} {mg mb : Str → Option Value} {k : Nat} {fa a : Addr} {fd : FuncData}
    {x : Str} {sp : Sp} {s₁ : Shared} {vs : List Value} {ns : List Int} (KX : K.In s₁.heap) (hns : s₁.heap.Ns mainGlobals mg)
    (hb : s₁.heap.Ns builtinsNs mb) (hbb : ∀ x : Str, x ≠ "__name__" → mb x = bootBuiltins x) (hlim : s₁.heap.NoLimit)
    (hg : s₁.gens = #[]) (ha : s₁.heap.get? a = some { cls := .type "list", data := .seq vs.toArray }) (hi : IntsAre vs ns)
    (hl : ns.length ≤ sizeLine) (hr : Room k callerA)
    (F : ∀ base : Heap, K.In base → base.Ns mainGlobals mg → FnG P w K mg base k fa fd [x] sp)
    (hbind : ∀ (s : Shared) (u : Value), BindsTo s fd ⟨[u], []⟩ [(x, u)])
    (hsp : ∀ H : Hp, Only H → SqL K H a (ns.map V.int) → sp [.ref a] H (fun v _ => v = .bl true) E0) :
    codeAny (model P w) callerA (.call (.ref fa) ⟨[.ref a], []⟩)
      (fun r s' => r = .ok (.ret (.bool true)) ∧ OldK s₁.heap s'.heap ∧ s'.os = s₁.os ∧ AllBare s'.gens) s₁ := by
  have hv := vals_ints hi
  have hn := hi.length
  have main : ∀ H : Hp, Only H → SqL K H a (ns.map V.int) → HOk P w H s₁.heap → (∀ b u, H b = some u → b = a ∧ K.lookup a = none) →
      codeAny (model P w) callerA (.call (.ref fa) ⟨[.ref a], []⟩)
        (fun r s' => r = .ok (.ret (.bool true)) ∧ OldK s₁.heap s'.heap ∧ s'.os = s₁.os ∧ AllBare s'.gens) s₁ := by
    intro H hO hS hok hA
    have dictFree : ∀ {b : Addr} {o : Obj} {es : Array DictEntry} {ep : Nat},
        s₁.heap.get? b = some o → o.data = .dict es ep → H b = none := by
      intro b o es ep e d
      cases q : H b with
      | none => rfl
      | some u =>
        obtain ⟨e1, _⟩ := hA b u q
        rw [e1, ha] at e
        injection e with e
        rw [← e] at d
        exact absurd d (by intro z; cases z)
    have nsB : ∀ {b : Addr} {m : Str → Option Value}, s₁.heap.Ns b m → (hidT s₁.heap H).Ns b m := by
      rintro b m ⟨o, es, ep, e, d, r⟩
      exact ⟨o, es, ep, hidT_get e (dictFree e d), d, r⟩
    have kB : K.In (hidT s₁.heap H) := by
      intro b o e
      refine hidT_get (KX b o e) ?_
      cases q : H b with
      | none => rfl
      | some u =>
        obtain ⟨e1, e2⟩ := hA b u q
        rw [e1, e2] at e
        cases e
    have hM : Mod K mg (hidT s₁.heap H) := by
      obtain ⟨mc, l1, l2⟩ := hlim
      exact ⟨kB, nsB hns, ⟨mb, nsB hb, hbb⟩, ⟨mc, nsB l1, l2⟩⟩
    have noB : ∀ b : Addr, b ∈ frs ([] : List Env) → False := fun b z => by simp [frs] at z
    have e0 : Env0 P w K mg (hidT s₁.heap H) callerA [] s₁ H :=
      ⟨rfl, hM, fun b o e => of_hidT e, Nat.le_of_eq (hidT_size _ _), trivial, fun b z => (noB b z).elim, hok, .of_eq hg⟩
    have go := (F _ kB (nsB hns)).goes callerA [] s₁ H ⟨[.ref a], []⟩ [.ref a] [.ref a] (fun v _ => v = .bl true) E0 rfl hr e0
      (hbind s₁ (.ref a)) (.cons rfl .nil) (hsp H hO hS)
    refine codeAny_mono go fun r s' h => ?_
    cases r with
    | error e => exact False.elim h
    | ok fl =>
      cases fl with
      | next => exact False.elim h
      | brk => exact False.elim h
      | cont => exact False.elim h
      | ret u =>
        obtain ⟨v, H', os, bare, un, hok', rv, q⟩ := h
        subst q
        cases (show u = Value.bool true from rv)
        refine ⟨rfl, OldK.of_keep fun b o e => ?_, os, bare⟩
        cases q : H b with
        | none => exact un.keep b o e q (fun z => noB b z) (by simp)
        | some u =>
          cases hO b with
          | inl z => rw [q] at z; cases z
          | inr z =>
            obtain ⟨ob, xs, z⟩ := z
            have f1 := (hok b _ z).1
            have f2 := (hok' b _ (un.frzs b ob _ z)).1
            rw [e] at f1
            rw [f2, ← f1]
  cases hk : K.lookup a with
  | some o =>
    have e := KX a o hk
    rw [ha] at e
    injection e with e
    subst e
    refine main (fun _ => none) (fun _ => Or.inl rfl) (Or.inr ⟨_, vs.toArray, _, hk, rfl, rfl, rfl, ?_, by simpa using hv⟩) ?_ ?_
    · rw [List.size_toArray, hn]; exact hl
    · intro b u z; exact absurd z (by intro y; cases y)
    · intro b u z; exact absurd z (by intro y; cases y)
  | none =>
    let Ha : Hp := fun b => if b = a then some (.frz { cls := .type "list", data := .seq vs.toArray } (.lst (ns.map V.int))) else none
    have ya : ∀ b, b = a → Ha b = some (.frz { cls := .type "list", data := .seq vs.toArray } (.lst (ns.map V.int))) := fun b h => if_pos h
    have na : ∀ b, b ≠ a → Ha b = none := fun b h => if_neg h
    refine main Ha (fun b => ?_) (Or.inl (Or.inr ⟨_, ya a rfl⟩)) (fun b u z => ?_) (fun b u z => ?_)
    · by_cases h : b = a
      · exact Or.inr ⟨_, _, ya b h⟩
      · exact Or.inl (na b h)
    · by_cases h : b = a
      · rw [ya b h] at z
        injection z with z
        subst z h
        exact ⟨ha, by rw [List.length_map]; exact hl, vs, _, hv, ha⟩
      · rw [na b h] at z; cases z
    · by_cases h : b = a
      · exact ⟨h, hk⟩
      · rw [na b h] at z; cases z

theorem walk_quiet {l : PySem.W.OpenLaw} {n k : Nat} {q : Program} {loose : List Str} {XP : (Str → Option Value) → Heap → Prop}
    {YP : World → Heap → Prop} {d : DefRec} {K : Params → PySem.W.Frag} {sp : PySem.W.Frag → Sp} {x : Str} (hn : l.most = some n)
    (hn2 : n ≤ sizeLine) (hdf : d.params.defaults = []) (hr : Room k callerA)
    (hY : ∀ (w : World) (h : Heap), YP w h → (K w.params).In h)
    (F : ∀ (w : World) (mg : Str → Option Value) (fa : Addr) (h : Heap), (K w.params).In h → h.Ns mainGlobals mg →
      mg d.name = some (.ref fa) → ∃ fd : FuncData, (∀ (s : Shared) (u : Value), BindsTo s fd ⟨[u], []⟩ [(x, u)]) ∧
        ∀ base : Heap, (K w.params).In base → base.Ns mainGlobals mg → FnG l.prog w (K w.params) mg base k fa fd [x] (sp (K w.params)))
    (hsp : ∀ (K : PySem.W.Frag) (H : Hp) (a : Addr) (ns : List Int), ns.length ≤ n → Only H → SqL K H a (ns.map V.int) →
      sp K [.ref a] H (fun v _ => v = .bl true) E0) :
    PySem.W.WalkO q loose XP YP l.row.toRowW d [] (fun f vs => PySem.call f vs) := by
  refine Att.attach_call hn hdf ?_
  intro w s₀ s₁ mg mb fa o pm cd doc a vs ns G Y ho hd hcd hmg hobj hints hlen hg
  have kx := hY w _ Y
  obtain ⟨fd, hb, hF⟩ := F w mg fa _ kx G.T.g hmg
  exact law_quiet kx G.T.g G.T.b G.T.builtins G.T.nolimit hg hobj hints (Nat.le_trans hlen hn2) hr hF hb
    fun H hO hS => hsp _ H a ns hlen hO hS
end Tw

set_option Elab.async false
set_option linter.all false
set_option maxRecDepth 100000
set_option maxHeartbeats 4000000
/-! data: what a value is, over the heap; the well at a -/
namespace Tw
open PySem PySem.Spec PyProof.Rows L2

/-- all that was known is known, but for what stands at a -/
def Kp (a : Addr) (H H' : Hp) : Prop := ∀ b o, b ≠ a → H b = some o → H' b = some o
/-- the well: a list of three ints -/
def We (a : Addr) (H : Hp) : Prop := ∃ x y z : Int, H a = some (.lst [.int x, .int y, .int z])
theorem Kp.refl (a : Addr) (H : Hp) : Kp a H H := fun _ _ _ h => h
theorem Kp.trans {a : Addr} {H H1 H2 : Hp} (x : Kp a H H1) (y : Kp a H1 H2) : Kp a H H2 := fun b o n h => y b o n (x b o n h)
theorem Kp.of {a : Addr} {H H' : Hp} (x : Same H H') : Kp a H H' := fun b o _ h => x b o h
theorem We.to {a : Addr} {H H' : Hp} (x : Same H H') (w : We a H) : We a H' := by
  obtain ⟨i, j, k, h⟩ := w
  exact ⟨i, j, k, x _ _ h⟩
theorem We.ne {a p : Addr} {H : Hp} (w : We a H) (h : H p = none) : p ≠ a := by
  obtain ⟨i, j, k, e⟩ := w
  exact fun z => by rw [z, e] at h; cases h
theorem We.some {a : Addr} {H : Hp} (w : We a H) : H a ≠ none := by
  obtain ⟨i, j, k, e⟩ := w
  rw [e]
  exact fun z => by cases z
theorem same_new {H : Hp} {p : Addr} {o : HO} (h : H p = none) : Same H (upd H p o) := fun b u e => by
  rw [upd_ne (ne_of_none e h)]; exact e
theorem kp_new {a : Addr} {H : Hp} {p : Addr} {o : HO} (h : H p = none) : Kp a H (upd H p o) := Kp.of (same_new h)
theorem we_new {a : Addr} {H : Hp} {p : Addr} {o : HO} (w : We a H) (h : H p = none) : We a (upd H p o) := w.to (same_new h)
theorem sz {n : Nat} (h : n ≤ 100000) : n ≤ sizeLine := Nat.le_trans h (by decide)

mutual
/-- the value is the datum; nothing of it is the well -/
inductive Da (a : Addr) (H : Hp) : V → PyData → Prop
  | non : Da a H .non .none
  | bl (b : Bool) : Da a H (.bl b) (.bool b)
  | int (i : Int) : Da a H (.int i) (.int i)
  | str (x : Str) : Da a H (.str x) (.str x)
  | lst {p : Addr} {xs : List V} {ds : List PyData} : p ≠ a → H p = some (.lst xs) → DaAll a H xs ds → Da a H (.ref p) (.list ds)
  | tup {p : Addr} {xs : List V} {ds : List PyData} : p ≠ a → H p = some (.tup xs) → DaAll a H xs ds → Da a H (.ref p) (.tuple ds)
  | dct {p : Addr} : p ≠ a → H p = some (.dK []) → Da a H (.ref p) (.dict [])
inductive DaAll (a : Addr) (H : Hp) : List V → List PyData → Prop
  | nil : DaAll a H [] []
  | cons {v : V} {vs : List V} {d : PyData} {ds : List PyData} : Da a H v d → DaAll a H vs ds → DaAll a H (v :: vs) (d :: ds)
end
section
variable {a : Addr} {H H' : Hp}
mutual
theorem Da.kp (k : Kp a H H') : ∀ {v : V} {d : PyData}, Da a H v d → Da a H' v d
  | _, _, .non => .non
  | _, _, .bl b => .bl b
  | _, _, .int i => .int i
  | _, _, .str x => .str x
  | _, _, .lst n h t => .lst n (k _ _ n h) (DaAll.kp k t)
  | _, _, .tup n h t => .tup n (k _ _ n h) (DaAll.kp k t)
  | _, _, .dct n h => .dct n (k _ _ n h)
theorem DaAll.kp (k : Kp a H H') : ∀ {vs : List V} {ds : List PyData}, DaAll a H vs ds → DaAll a H' vs ds
  | _, _, .nil => .nil
  | _, _, .cons h t => .cons (Da.kp k h) (DaAll.kp k t)
end
theorem Da.same (s : Same H H') {v : V} {d : PyData} (h : Da a H v d) : Da a H' v d := h.kp (Kp.of s)
theorem DaAll.same (s : Same H H') {v : List V} {d : List PyData} (h : DaAll a H v d) : DaAll a H' v d := h.kp (Kp.of s)
theorem DaAll.len : ∀ {vs : List V} {ds : List PyData}, DaAll a H vs ds → vs.length = ds.length
  | _, _, .nil => rfl
  | _, _, .cons _ t => congrArg Nat.succ t.len
theorem DaAll.get : ∀ {vs : List V} {ds : List PyData} {i : Nat} {v : V}, DaAll a H vs ds → vs[i]? = some v → ∃ d, ds[i]? = some d ∧ Da a H v d
  | _, _, _, _, .nil, h => by simp at h
  | _, _, 0, _, .cons h _, e => by simp at e; subst e; exact ⟨_, rfl, h⟩
  | _, _, i + 1, _, .cons _ t, e => by
    obtain ⟨d, h1, h2⟩ := t.get (i := i) (by simpa using e)
    exact ⟨d, by simpa using h1, h2⟩
theorem DaAll.append : ∀ {vs ws : List V} {ds es : List PyData}, DaAll a H vs ds → DaAll a H ws es → DaAll a H (vs ++ ws) (ds ++ es)
  | _, _, _, _, .nil, t => t
  | _, _, _, _, .cons h t, u => .cons h (t.append u)
theorem DaAll.drop : ∀ {vs : List V} {ds : List PyData} (n : Nat), DaAll a H vs ds → DaAll a H (vs.drop n) (ds.drop n)
  | _, _, 0, h => h
  | _, _, _ + 1, .nil => .nil
  | _, _, n + 1, .cons _ t => t.drop n
theorem DaAll.take : ∀ {vs : List V} {ds : List PyData} (n : Nat), DaAll a H vs ds → DaAll a H (vs.take n) (ds.take n)
  | _, _, 0, _ => .nil
  | _, _, _ + 1, .nil => .nil
  | _, _, n + 1, .cons h t => .cons h (t.take n)
theorem DaAll.rev : ∀ {vs : List V} {ds : List PyData}, DaAll a H vs ds → DaAll a H vs.reverse ds.reverse
  | _, _, .nil => .nil
  | _, _, .cons h t => by
    rw [List.reverse_cons, List.reverse_cons]
    exact t.rev.append (.cons h .nil)
/-- a slice of the values, of the data -/
def cutD (ds : List PyData) (lo hi : Option Int) : List PyData := (ds.drop (HT.sIx ds.length 0 lo)).take (HT.sIx ds.length ds.length hi - HT.sIx ds.length 0 lo)
theorem DaAll.cut {vs : List V} {ds : List PyData} (lo hi : Option Int) (h : DaAll a H vs ds) : DaAll a H (cutV vs lo hi) (cutD ds lo hi) := by
  unfold cutV cutD
  rw [h.len]
  exact (h.drop _).take _

mutual
theorem Da.dp {K : PySem.W.Frag} : ∀ {v : V} {d : PyData}, Da a H v d → d.canLay0 = true → Dp K H v d
  | _, _, .non, _ => .non
  | _, _, .bl b, _ => .bl b
  | _, _, .int i, _ => .int i
  | _, _, .str x, _ => .str x
  | _, _, .lst n h t, c => .lst (SqL.of h) (DaAll.dp t (by simpa [PyData.canLay0] using c))
  | _, _, .tup n h t, c => .tup (SqT.of h) (DaAll.dp t (by simpa [PyData.canLay0] using c))
  | _, _, .dct n h, c => by simp [PyData.canLay0] at c
theorem DaAll.dp {K : PySem.W.Frag} : ∀ {vs : List V} {ds : List PyData}, DaAll a H vs ds → PyData.canLayAll0 ds = true → DpAll K H vs ds
  | _, _, .nil, _ => .nil
  | _, _, .cons (d := d) (ds := ds) h t, c => by
    have c' : d.canLay0 = true ∧ PyData.canLayAll0 ds = true := by simpa [PyData.canLayAll0] using c
    exact .cons (Da.dp h c'.1) (DaAll.dp t c'.2)
end
end

/-! ### written data -/
mutual
def litOf : Expr → Option PyData
  | .Constant c _ _ => match c with
    | .none => some .none
    | .bool b => some (.bool b)
    | .int i => some (.int i)
    | .str x => some (.str x)
    | _ => none
  | .UnaryOp .USub (.Constant (.int i) _ _) _ => some (.int (-i))
  | .BinOp (.Constant (.int i) _ _) .Pow (.Constant (.int j) _ _) _ => if 0 ≤ j ∧ j ≤ 1000 ∧ i.natAbs < 1000 then some (.int (i ^ j.toNat)) else none
  | .Tuple es _ _ => match litsOf es with
    | some ds => if ds.length ≤ 1000 then some (.tuple ds) else none
    | none => none
  | .List es _ => match litsOf es with
    | some ds => if ds.length ≤ 1000 then some (.list ds) else none
    | none => none
  | .Dict [] [] _ => some (.dict [])
  | _ => none
def litsOf : List Expr → Option (List PyData)
  | [] => some []
  | e :: es => match litOf e, litsOf es with
    | some d, some ds => some (d :: ds)
    | _, _ => none
end
theorem _root_.L2.PE.weak {X : Cx} {e : Expr} {t t' : TE} (h : PE X e t) (k : ∀ σ H Q, t' σ H Q → t σ H Q) : PE X e t' := ⟨fun p s σ H Q I q => h.run p s σ H Q I (k σ H Q q)⟩
theorem _root_.L2.PA.weak {X : Cx} {e : List Expr} {t t' : TA} (h : PA X e t) (k : ∀ σ H Q, t' σ H Q → t σ H Q) : PA X e t' := ⟨fun o p s σ H Q I q => h.run o p s σ H Q I (k σ H Q q)⟩
/-- a new datum; a is any known place -/
def tLit (d : PyData) : TE := fun _ H Q => ∃ a, H a ≠ none ∧ ∀ v H', Same H H' → Da a H' v d → Q v H'
def tLits (ds : List PyData) : TA := fun _ H Q => ∃ a, H a ≠ none ∧ ∀ vs H', Same H H' → DaAll a H' vs ds → Q vs H'
theorem same_some {H H' : Hp} {a : Addr} (s : Same H H') (h : H a ≠ none) : H' a ≠ none := by
  cases e : H a with
  | none => exact absurd e h
  | some o => rw [s a o e]; exact fun z => by cases z
theorem new_ne {H : Hp} {a p : Addr} (h : H a ≠ none) (n : H p = none) : p ≠ a := fun z => h (by rw [← z]; exact n)
theorem star_lit {e : Expr} {es : List Expr} {env : Env} {d : PyData} (h : litOf e = some d) : starEach (e :: es) env = (false, eval e env) :: starEach es env := by
  cases e <;> first | rfl | (simp [litOf] at h)
section
variable {X : Cx}
mutual
theorem pe_lit : ∀ (e : Expr) {d : PyData}, litOf e = some d → PE X e (tLit d)
  | .Constant .none _ _, _, h => by
    have e := Option.some.inj h; subst e
    exact pe_non.weak fun σ H Q ⟨a, _, q⟩ => q _ _ (Same.refl H) .non
  | .Constant (.bool b) _ _, _, h => by
    have e := Option.some.inj h; subst e
    exact pe_bl.weak fun σ H Q ⟨a, _, q⟩ => q _ _ (Same.refl H) (.bl b)
  | .Constant (.int i) _ _, _, h => by
    have e := Option.some.inj h; subst e
    exact pe_int.weak fun σ H Q ⟨a, _, q⟩ => q _ _ (Same.refl H) (.int i)
  | .Constant (.str x) _ _, _, h => by
    have e := Option.some.inj h; subst e
    exact pe_str.weak fun σ H Q ⟨a, _, q⟩ => q _ _ (Same.refl H) (.str x)
  | .UnaryOp .USub (.Constant (.int i) _ _) _, _, h => by
    have e := Option.some.inj h; subst e
    exact (pe_un un_neg pe_int).weak fun σ H Q ⟨a, _, q⟩ => ⟨i, rfl, q _ _ (Same.refl H) (.int (-i))⟩
  | .BinOp (.Constant (.int i) _ _) .Pow (.Constant (.int j) _ _) _, d, h => by
    simp only [litOf] at h
    split at h
    · rename_i c
      have e := Option.some.inj h; subst e
      refine (pe_op op_pow pe_int pe_int).weak fun σ H Q ⟨a, _, q⟩ => ⟨i, j, rfl, rfl, ⟨c.1, by have := c.2.1; omega, by have := c.2.2; omega⟩, q _ _ (Same.refl H) (.int _)⟩
    · cases h
  | .Tuple es _ _, d, h => by
    simp only [litOf] at h
    split at h
    · rename_i ds hd
      split at h
      · rename_i c
        have e := Option.some.inj h; subst e
        refine (pe_tup (pa_lits es hd)).weak fun σ H Q ⟨a, n, q⟩ => ⟨a, n, fun vs H1 s1 d1 => ⟨sz (by rw [d1.len]; omega), fun p hp => ?_⟩⟩
        have s2 := same_new (o := .tup vs) hp
        exact q _ _ (s1.trans s2) (.tup (new_ne (same_some s1 n) hp) upd_same (d1.same s2))
      · cases h
    · cases h
  | .List es _, d, h => by
    simp only [litOf] at h
    split at h
    · rename_i ds hd
      split at h
      · rename_i c
        have e := Option.some.inj h; subst e
        refine (pe_lst (pa_lits es hd)).weak fun σ H Q ⟨a, n, q⟩ => ⟨a, n, fun vs H1 s1 d1 => ⟨sz (by rw [d1.len]; omega), fun p hp => ?_⟩⟩
        have s2 := same_new (o := .lst vs) hp
        exact q _ _ (s1.trans s2) (.lst (new_ne (same_some s1 n) hp) upd_same (d1.same s2))
      · cases h
    · cases h
  | .Dict [] [] _, d, h => by
    have e := Option.some.inj h; subst e
    refine pe_dnewK.weak fun σ H Q ⟨a, n, q⟩ => fun p hp => ?_
    exact q _ _ (same_new hp) (.dct (new_ne n hp) upd_same)
theorem pa_lits : ∀ (es : List Expr) {ds : List PyData}, litsOf es = some ds → PA X es (tLits ds)
  | [], _, h => by
    have e := Option.some.inj h; subst e
    exact pa_nil.weak fun σ H Q ⟨a, _, q⟩ => q _ _ (Same.refl H) .nil
  | e :: es, ds, h => by
    simp only [litsOf] at h
    split at h
    · rename_i d ds' hd hds
      have z := Option.some.inj h; subst z
      refine (pa_cons (pe_lit e hd) (pa_lits es hds) (star_lit hd)).weak fun σ H Q ⟨a, n, q⟩ => ⟨a, n, fun v H1 s1 d1 => ⟨a, same_some s1 n, fun vs H2 s2 d2 => ?_⟩⟩
      exact q _ _ (s1.trans s2) (.cons (d1.same s2) d2)
    · cases h
end
end
end Tw

set_option Elab.async false
set_option linter.all false
set_option maxRecDepth 100000
set_option maxHeartbeats 4000000
/-! rules: texts of data, a tuple beside the empty one, a tuple turned round, kinds of data -/
namespace Tw
open PySem PySem.Spec PyProof.Rows L2
section
variable {X : Cx}

/-- repr of a list, a tuple -/
def rShow (K : PySem.W.Frag) : List V → Hp → VK → Prop := fun xs H Q =>
  ∃ p d, xs = [.ref p] ∧ Dp K H (.ref p) d ∧ SeqAt.shaped d = true ∧ d.showable = true ∧ d.shown.length ≤ sizeLine ∧ Q (.str d.shown) H
theorem noDict_of {d : PyData} (h : SeqAt.shaped d = true) : d.hasDict = false := by
  have c := SeqAt.canLay_of_shaped h
  exact PyData.hasDict_of_canLay d c
theorem call_show (hq : Qt X.A) (hu : X.A.units + 70 < cLine) : CallR X (.builtin "repr") (rShow X.K) := by
  intro pins s σ H xs us Q I r h
  obtain ⟨p, d, rfl, hd, hs, hw, hz, q⟩ := h
  obtain ⟨u, rfl, rx⟩ := vals1 r
  obtain ⟨as, rd⟩ := Dp.reads I d _ u hd rx
  cases rx
  have dp := SeqAt.depth_of_shaped hs
  refine repr_of_reads' rd hw (fun z => ?_) hq (by omega) (fun _ _ e => e) (fun h' t k keep => ?_) hz
  · rw [noDict_of hs] at z; cases z
  · exact ⟨.str d.shown, H, I.kept keep, ⟨_, rfl⟩, q⟩

/-- a tuple beside an empty one -/
def rT0 (ne : Bool) (K : PySem.W.Frag) : R2 := fun x y H Q =>
  ∃ a b xs ys, x = .ref a ∧ y = .ref b ∧ SqT K H a xs ∧ SqT K H b ys ∧ ys = [] ∧ Q (.bl (if ne then !xs.isEmpty else xs.isEmpty)) H
theorem t0_val {xs : List V} {its its2 : List Value} (r1 : Vals xs its) (r2 : Vals [] its2) :
    ((List.range (min its.toArray.size its2.toArray.size)).all (fun _ => true) && its.toArray.size == its2.toArray.size) = xs.isEmpty := by
  cases r2
  cases r1 with
  | nil => rfl
  | cons _ _ => simp
theorem op_eqT0 (hu : X.A.units + 64 < cLine) : OpR X (compareOp .Eq) (rT0 false X.K) := by
  intro pins s σ H x y v u Q I rx ry h
  obtain ⟨a, b, xs, ys, rfl, rfl, ha, hb, rfl, q⟩ := h
  cases rx
  cases ry
  obtain ⟨its, r1, p1, _⟩ := I.tuple ha
  obtain ⟨its2, r2, p2, _⟩ := I.tuple hb
  refine SeqAt.RcAt.tuples (e := fun _ => true) p1 p2 (by omega) (fun j h1 h2 => ?_) _ _ _ _ ⟨.bl xs.isEmpty, H, I, ?_, q⟩
  · cases r2
    exact absurd h2 (by simp)
  · show Value.bool _ = Value.bool _
    rw [t0_val r1 r2]
theorem op_neT0 (hu : X.A.units + 64 < cLine) : OpR X (compareOp .NotEq) (rT0 true X.K) := by
  intro pins s σ H x y v u Q I rx ry h
  obtain ⟨a, b, xs, ys, rfl, rfl, ha, hb, rfl, q⟩ := h
  cases rx
  cases ry
  obtain ⟨its, r1, p1, _⟩ := I.tuple ha
  obtain ⟨its2, r2, p2, _⟩ := I.tuple hb
  refine SeqAt.RcNeAt.tuples (e := fun _ => true) p1 p2 (by omega) (fun j h1 h2 => ?_) _ _ _ _ ⟨.bl (!xs.isEmpty), H, I, ?_, q⟩
  · cases r2
    exact absurd h2 (by simp)
  · show Value.bool _ = Value.bool _
    rw [t0_val r1 r2]

/-! ### t[::-1] -/
theorem applied_rev {prog : Program} {w : World} {A : Around} {E : Value → Shared → Prop} {s : Shared} {sl : Addr} {vl vu vs : Value} {n : Nat} {Q : Int × Int × Nat → Shared → Prop}
    (hs : s.heap.IsSliceOf sl vl vu vs) (pl : IsPart vl none) (pu : IsPart vu none) (pt : IsPart vs (some (-1))) (h : Q ((n : Int) - 1, -1, n) s) :
    wpAny (model prog w) A (Builtin.Slice.sliceApplied (.ref sl) (pure (n : Int))) Q E s := by
  obtain ⟨ob, e1, e2, e3⟩ := id hs
  unfold Builtin.Slice.sliceApplied Builtin.Slice.sliceFields
  refine wpAny_bind (wpAny_bind (wpAny_field e1 e3 (x := vl) rfl ?_))
  refine wpAny_bind (wpAny_field e1 e3 (x := vu) rfl ?_)
  refine wpAny_bind (wpAny_field e1 e3 (x := vs) rfl (wpAny_pure ?_))
  refine wpAny_bind (HT.slicePart_ pt ?_)
  show wpAny _ _ (if ((-1 : Int) == 0) = true then _ else _) _ _ s
  rw [if_neg (by decide)]
  refine wpAny_bind (HT.slicePart_ pl ?_)
  refine wpAny_bind (HT.slicePart_ pu (wpAny_bind (wpAny_pure (wpAny_pure ?_))))
  have ep : Builtin.Slice.slicePlaces ((n : Int) - 1) (-1) (-1) = n := by
    unfold Builtin.Slice.slicePlaces
    have c1 : ¬ ((-1 : Int) > 0) := by decide
    simp only [c1, if_false]
    by_cases c : (n : Int) - 1 > -1
    · simp only [c, if_true]
      have : ((n : Int) - 1 - -1 - 1) / (- -1) = (n : Int) - 1 := by
        rw [show (- -1 : Int) = 1 by decide, Int.ediv_one]; omega
      omega
    · simp only [c, if_false]
      omega
  show Q (_, (-1 : Int), Builtin.Slice.slicePlaces ((n : Int) - 1) (-1) (-1)) s
  rw [ep]
  exact h
theorem fm_congr {α β : Type} {f g : α → Option β} : ∀ (l : List α), (∀ k ∈ l, f k = g k) → l.filterMap f = l.filterMap g
  | [], _ => rfl
  | k :: l, h => by
    rw [List.filterMap_cons, List.filterMap_cons, h k (by simp), fm_congr l fun j hj => h j (by simp [hj])]
theorem pick_rev (xs : Array Value) : ((List.range xs.size).filterMap fun (k : Nat) => xs[(((xs.size : Int) - 1) + (k : Int) * (-1)).toNat]?).toArray = xs.toList.reverse.toArray := by
  congr 1
  have e : (List.range xs.size).filterMap (fun (k : Nat) => xs[(((xs.size : Int) - 1) + (k : Int) * (-1)).toNat]?) = ((List.range xs.size).map fun k => xs.size - 1 - k).filterMap (xs[·]?) := by
    rw [List.filterMap_map]
    refine fm_congr _ fun k hk => ?_
    have hlt := List.mem_range.mp hk
    have e : (((xs.size : Int) - 1) + (k : Int) * (-1)).toNat = xs.size - 1 - k := by omega
    show xs[(((xs.size : Int) - 1) + (k : Int) * (-1)).toNat]? = xs[xs.size - 1 - k]?
    rw [e]
  rw [e, PySem.W.krv_range, List.filterMap_reverse, PySem.W.krv_all]
theorem getItem_rev {prog : Program} {w : World} {A : Around} {E : Value → Shared → Prop} {s : Shared} {t sl : Addr} {items : Array Value} {vl vu vs : Value} {Q : Value → Shared → Prop}
    (ht : IsTup s.heap t items) (hs : s.heap.IsSliceOf sl vl vu vs) (pl : IsPart vl none) (pu : IsPart vu none) (pt : IsPart vs (some (-1))) (hz : items.size ≤ sizeLine)
    (h : Q (.ref s.heap.objs.size) { s with heap := s.heap.push { cls := .type "tuple", data := .seq items.toList.reverse.toArray } }) :
    wpAny (model prog w) A (getItem (.ref t) (.ref sl)) Q E s := by
  have ty : s.TypeIs (.ref sl) "slice" := by obtain ⟨ob, e1, e2, e3⟩ := id hs; exact ⟨ob, e1, e2⟩
  have ok : sizeOk (.seq items.toList.reverse.toArray) := by
    show items.toList.reverse.toArray.size ≤ sizeLine
    simpa using hz
  unfold getItem
  (try with_reducible refine wpAny_holding ?_); (first | refine wpAny_bind (wpAny_pure ?_) | skip)
  refine wpAny_bind (wpAny_sequenceKey ht.typeIs (by decide) ?_)
  have sg := PyProof.Rows.slot_tuple_getitem
  refine wpAny_bind (wpAny_callSpecial?_slot (name := Str.ofString "__getitem__") ht.typeIs sg ?_)
  refine wpAny_call_entry sg ht.typeIs entry_tuple_getitem ?_ (args_tuple_getitem _ _)
  refine (show wpAny _ _ (Builtin.Tuple.tupleItemsOf (.ref t) >>= _) _ _ s from ?_)
  refine wpAny_bind (tupleItemsOf_ ht (wpAny_bind (wpAny_typeOf ty ?_)))
  rw [if_pos (by decide)]
  refine wpAny_bind (applied_rev hs pl pu pt ?_)
  have no : ¬ (((items.size : Int) - 1 == 0 && (-1 : Int) == 1 && items.size == items.size) = true) := by simp
  show wpAny _ _ (if ((items.size : Int) - 1 == 0 && (-1 : Int) == 1 && items.size == items.size) = true then _ else _) _ _ s
  rw [if_neg no, pick_rev]
  first
    | exact wpAny_bind (wpAny_bind (m := Builtin.Tuple.tupleExact _) (wpAny_newObj_type (wpAny_pure ⟨_, rfl, wpAny_pure h⟩) ok))
    | exact wpAny_bind (m := Builtin.Tuple.tupleExact _) (wpAny_newObj_type (wpAny_pure ⟨_, rfl, wpAny_pure h⟩) ok)
    | exact wpAny_bind (m := Builtin.Tuple.tupleExact _) (wpAny_newObj_type (wpAny_bind (wpAny_pure (wpAny_pure ⟨_, rfl, wpAny_pure h⟩))) ok)
    | exact wpAny_bind (wpAny_bind (m := Builtin.Tuple.tupleExact _) (wpAny_newObj_type (wpAny_pure (wpAny_pure ⟨_, rfl, wpAny_pure h⟩)) ok))
def tRevT (K : PySem.W.Frag) (te : TE) : TE := fun σ H Q => te σ H fun x H1 => ∃ a xs, x = .ref a ∧ SqT K H1 a xs ∧ ∀ p, H1 p = none → Q (.ref p) (upd H1 p (.tup xs.reverse))
theorem pe_revT {e : Expr} {te : TE} {k : Nat} {p1 p2 p3 pos : Pos} (he : PE X e te) :
    PE X (.Subscript e (.Slice none none (some (.UnaryOp .USub (.Constant (.int 1) k p1) p2)) p3) pos) (tRevT X.K te) := by
  refine ⟨fun pins s σ H Q I h => Subscript_ (thn (he.run pins s σ H _ I h) ?_)⟩
  rintro v s1 ⟨x, H1, I1, r1, a, xs, ex, hx, q⟩
  subst ex
  cases r1
  have step : PO X (some (.UnaryOp .USub (.Constant (.int 1) k p1) p2)) (tPart (tUn (rU fun i => .int (-i)) (tC (.int 1)))) := po_some (pe_un un_neg pe_int)
  refine wpAny_Slice (thn (po_none.run pins s1 σ H1 (fun o G => o = none ∧ G = H1) I1 ⟨rfl, rfl⟩) ?_)
  rintro vl s2 ⟨l, G2, I2, pl, rfl, rfl⟩
  refine thn (po_none.run pins s2 σ G2 (fun o G => o = none ∧ G = G2) I2 ⟨rfl, rfl⟩) ?_
  rintro vu s3 ⟨l3, G3, I3, pu, rfl, rfl⟩
  refine thn (step.run pins s3 σ G3 (fun o G => o = some (-1) ∧ G = G3) I3 ⟨1, rfl, -1, rfl, rfl, rfl⟩) ?_
  rintro vs s4 ⟨l4, G4, I4, pt, rfl, rfl⟩
  have I5 := I4.kept (h' := s4.heap.push { cls := .type "slice", data := .fields #[vl, vu, vs] }) (t' := s4.toks) fun b ob z => Heap.get?_push_of_some _ z
  obtain ⟨its, r, ht, hz⟩ := I5.tuple hx
  have hl := r.length
  refine tail_any (ops := [.ref a, .ref s4.heap.objs.size]) ht.typeIs PyProof.Rows.slot_tuple_getitem.lookup ?_ (by with_unfolding_all rfl)
  refine getItem_rev ht (Heap.IsSliceOf.new _ vl vu vs) pl pu pt (by rw [List.size_toArray]; omega) ?_
  have J := I5.laid (t' := s4.toks) (o := .tup xs.reverse) (fun b ob z => Heap.get?_push_of_some _ z) (Nat.le_refl _)
    ⟨by rw [List.length_reverse]; exact hz, its.reverse, Vals.reverse r, IsTup.new _ _⟩
  exact ⟨.ref _, _, J, rfl, q _ (I5.hok.fresh (Nat.le_refl _))⟩
end

/-! ### kinds -/
def kindOf : PyData → String
  | .none => "NoneType"
  | .bool _ => "bool"
  | .int _ => "int"
  | .str _ => "str"
  | .list _ => "list"
  | .tuple _ => "tuple"
  | .dict _ => "dict"
theorem Da.ty {a : Addr} {H : Hp} {K : PySem.W.Frag} : ∀ {v : V} {d : PyData}, Da a H v d → TyX K H v (.type (kindOf d))
  | _, _, .non => .base .non
  | _, _, .bl b => .base (.bl b)
  | _, _, .int i => .base (.int i)
  | _, _, .str x => .base (.str x)
  | _, _, .lst _ h _ => .base (.lst h)
  | _, _, .tup _ h _ => .base (.tup h)
  | _, _, .dct _ h => .base (.dK h)
end Tw

set_option Elab.async false
set_option linter.all false
set_option maxRecDepth 100000
set_option maxHeartbeats 4000000
/-! defs of the text, and calls of them by name -/
namespace Tw
open PySem PySem.Spec PyProof.Rows L2

/-- the def st stands at the name x -/
def Def (K : PySem.W.Frag) (mg : Str → Option Value) (x : Str) (st : Stmt) (ps : List Str) : Prop :=
  ∃ f fd, Fun K x x st f fd ∧ mg x = some (.ref f) ∧ Binds K fd ps []
/-- f is a def, fd -/
def FdAt (K : PySem.W.Frag) (f : Addr) (fd : FuncData) : Prop := ∃ oc od osl, K.lookup f = some ⟨oc, od, .func fd, osl⟩
theorem fdAt {K : PySem.W.Frag} {x q : Str} {st : Stmt} {f : Addr} {fd : FuncData} (F : Fun K x q st f fd) : FdAt K f fd := by
  obtain ⟨oc, od, _, _, _, _, _, _, osl, _, lk, _⟩ := F.ex
  exact ⟨oc, od, osl, lk⟩
/-- what stands at the name x keeps the promise -/
def Cal (P : Program) (w : World) (K : PySem.W.Frag) (mg : Str → Option Value) (base : Heap) (x : Str) (k : Nat) (ps : List Str) (sp : Sp) : Prop :=
  ∃ f fd, FnOk P w K mg base CX0 k f fd ps sp ∧ mg x = some (.ref f) ∧ PySem.W.keepIn K (.ref f) = true ∧ Binds K fd ps [] ∧ FdAt K f fd
def CalG (P : Program) (w : World) (K : PySem.W.Frag) (mg : Str → Option Value) (base : Heap) (x : Str) (k : Nat) (ps : List Str) (sp : Sp) : Prop :=
  ∃ f fd, FnG P w K mg base k f fd ps sp ∧ mg x = some (.ref f) ∧ PySem.W.keepIn K (.ref f) = true ∧ Binds K fd ps [] ∧ FdAt K f fd
section
variable {P : Program} {w : World} {K : PySem.W.Frag} {mg : Str → Option Value} {base : Heap} {x : Str} {st : Stmt} {ps N : List Str} {k : Nat} {sp : Sp}
theorem Def.ok (D : Def K mg x st ps) (S : FnScope N ps (defScope st)) (many : ∀ vs H Q E, sp vs H Q E → vs.length = ps.length)
    (hbody : ∀ (f : Addr) (cdv : Value) (A : Around) (out : List Env) (s : Shared) (H : Hp) (vs : List V) (Q : VK) (E : XK),
      Room k (A.deeper (envOfC x (defScope st) s.heap.objs.size f cdv)) → sp vs H Q E →
      ∃ t, PSs (cxOf CX0 P w K mg base N x (defScope st) f cdv A out s H E).nox (defBody st) t ∧
        t { nx := fun _ H' => Q .non H', rt := Q } (start N vs) H) : Cal P w K mg base x (k + 1) ps sp := by
  obtain ⟨f, fd, F, m, b⟩ := D
  exact ⟨f, fd, F.ok S many (fun cdv A out s H vs Q E hr hs => hbody f cdv A out s H vs Q E hr hs), m, F.kp, b, fdAt F⟩
theorem Def.okG (D : Def K mg x st ps) (S : FnScope N ps (defScope st)) (many : ∀ vs H Q E, sp vs H Q E → vs.length = ps.length)
    (hbody : ∀ (f : Addr) (cdv : Value) (A : Around) (out : List Env) (s : Shared) (H : Hp) (vs : List V) (Q : VK) (E : XK),
      Qt (A.deeper (envOfC x (defScope st) s.heap.objs.size f cdv)) →
      Room k (A.deeper (envOfC x (defScope st) s.heap.objs.size f cdv)) → sp vs H Q E →
      ∃ t, PSs (cxOf CX0 P w K mg base N x (defScope st) f cdv A out s H E).nox (defBody st) t ∧
        t { nx := fun _ H' => Q .non H', rt := Q } (start N vs) H) : CalG P w K mg base x (k + 1) ps sp := by
  obtain ⟨f, fd, F, m, b⟩ := D
  exact ⟨f, fd, Fun.okG F S many (fun cdv A out s H vs Q E hq hr hs => hbody f cdv A out s H vs Q E hq hr hs), m, F.kp, b, fdAt F⟩
theorem Cal.imp {sp' : Sp} (C : Cal P w K mg base x k ps sp) (h : ∀ vs H Q E, sp' vs H Q E → sp vs H Q E) : Cal P w K mg base x k ps sp' := by
  obtain ⟨f, fd, F, r⟩ := C
  exact ⟨f, fd, F.imp h, r⟩
theorem Cal.up {j : Nat} (C : Cal P w K mg base x j ps sp) (h : j ≤ k) : Cal P w K mg base x k ps sp := by
  obtain ⟨f, fd, F, r⟩ := C
  exact ⟨f, fd, F.mono h, r⟩
theorem def_mk {h : Heap} {f : Addr} {oc kV dc pm cd ct : Value} {od an : Option Addr} {sl : Array (Option Value)} (X : K.In h) (G : h.Ns mainGlobals mg)
    (a : PySem.W.nsIn K mainGlobals x = some (some (.ref f)))
    (l : K.lookup f = some ⟨oc, od, .func (PySem.W.fnOf x x (defArgs st) (defBody st) (defScope st) .none kV dc pm an cd ct), sl⟩)
    (c : PySem.W.codeIn K cd x = true) (kp : PySem.W.keepIn K (.ref f) = true)
    (hb : ∀ (kV doc pm : Value) (an : Option Addr) (cdv ct : Value) (us : List Value), us.length = ps.length →
      bindArgs (PySem.W.fnOf x x (defArgs st) (defBody st) (defScope st) .none kV doc pm an cdv ct) ⟨us, []⟩ = pure (ps.zip us)) : Def K mg x st ps := by
  have F := fun_mk (st := st) l c kp
  exact ⟨f, _, F, PySem.W.mg_of X G a, F.binds hb⟩
end
section
variable {X : Cx} {k j : Nat} {ps : List Str} {sp : Sp} {x : Str} {p pos : Pos} {e : Expr} {es : List Expr} {t : TA}
/-- f(e, ..) -/
theorem pe_cal (C : Cal X.prog X.w X.K X.mg X.base x j ps sp) (hr : Room k X.A) (hj : j ≤ k) (hg : Gl X x) (ha : PA X (e :: es) t) (hdb : (x == ("__debug__" : Str)) = false := by decide)
    (he : starEach (e :: es) X.env = (false, eval e X.env) :: starEach es X.env := by rfl) (hpl : (backTo pos (starEach es X.env)).any (·.1) = false := by rfl) :
    PE X (.Call (.Name x p) (e :: es) [] pos) (tCall sp [] E0 t) := by
  obtain ⟨f, fd, F, m, kp, b, _⟩ := C
  exact pe_call F (hr.mono hj) hg m kp b .nil pass0 ha hdb he hpl
theorem pe_calG (C : CalG X.prog X.w X.K X.mg X.base x j ps sp) (hq : Qt X.A) (hr : Room k X.A) (hj : j ≤ k) (hg : Gl X x) (ha : PA X (e :: es) t) (hdb : (x == ("__debug__" : Str)) = false := by decide)
    (he : starEach (e :: es) X.env = (false, eval e X.env) :: starEach es X.env := by rfl) (hpl : (backTo pos (starEach es X.env)).any (·.1) = false := by rfl) :
    PE X (.Call (.Name x p) (e :: es) [] pos) (tCall sp [] E0 t) := by
  obtain ⟨f, fd, F, m, kp, b, _⟩ := C
  exact pe_callG F hq (hr.mono hj) hg m kp b ha hdb he hpl

/-- f(k = e, ..), nothing by position: ks the names as they are written, g puts the values in the parameters' order -/
theorem pe_calK {st : Stmt} {ks : List Str} {kws : List Keyword} (g : List Value → List Value) (gV : List V → List V) (C : Cal X.prog X.w X.K X.mg X.base x j ps sp) (D : Def X.K X.mg x st ps) (hr : Room k X.A) (hj : j ≤ k) (hg : Gl X x)
    (hb : ∀ (kV doc pm : Value) (an : Option Addr) (cdv ct : Value) (us : List Value), us.length = ks.length →
      bindArgs (PySem.W.fnOf x x (defArgs st) (defBody st) (defScope st) .none kV doc pm an cdv ct) ⟨[], ks.zip us⟩ = pure (ps.zip (g us)))
    (hrel : ∀ {zs : List V} {us : List Value}, Vals zs us → us.length = ks.length → Vals (gV zs) (g us)) (ha : PK X kws t)
    (hn : ∀ zs H Q, t zs H Q → t zs H fun vs H' => vs.length = ks.length ∧ Q vs H')
    (hall : (backToKw pos (keywordEach kws X.env)).all (·.1.isSome) = true := by rfl) (hks : (backToKw pos (keywordEach kws X.env)).filterMap (·.1) = ks := by rfl)
    (hdb : (x == ("__debug__" : Str)) = false := by decide)
    (hpl : ((backTo pos (starEach [] X.env)).any (·.1) || (backToKw pos (keywordEach kws X.env)).any (·.1.isNone)) = false := by rfl) :
    PE X (.Call (.Name x p) [] kws pos) (fun σ H Q => t σ H fun zs H1 => sp (gV zs) H1 Q E0) := by
  obtain ⟨f, fd, F, m, kp, b, oc, od, osl, lk⟩ := C
  obtain ⟨f', fd', F', m', _⟩ := D
  have e1 : f' = f := by rw [m] at m'; injection m' with z; injection z with z; exact z.symm
  subst e1
  obtain ⟨oc', od', kV, doc, pm, an, cdv, ct, osl', e2, lk', _⟩ := F'.ex
  rw [lk] at lk'
  injection lk' with lk'
  injection lk' with _ _ e3 _
  injection e3 with e3
  subst e3
  refine ⟨fun pins s σ H Q I h => wpAny_Call_Name_kw (ld_glob I hg m ?_ hdb)⟩
  refine PySem.W.callWith_KW0 (h₀ := X.base) I.ok.mod.kin kp hall ?_ hpl
  refine thn (ha.run pos pins s σ H _ I (hn σ H _ h)) ?_
  rintro ws s2 ⟨zs, H2, I2, rz, hl, q2⟩
  rw [hks]
  refine ⟨I2.kIn, wpAny_call ?_⟩
  have hw : ws.length = ks.length := by rw [← Vals.length rz]; exact hl
  have bt : BindsTo s2 fd ⟨[], ks.zip ws⟩ (ps.zip (g ws)) := by
    rw [e2]
    exact .of_eq (hb kV doc pm an cdv ct ws hw)
  refine codeAny_mono (F.run X.A X.stack s2 H2 ⟨[], ks.zip ws⟩ (g ws) (gV zs) Q E0 (hr.mono hj) I2.env0 bt (hrel rz hw) q2) fun r s' hh => ?_
  cases r with
  | error z => exact False.elim hh
  | ok fl =>
    cases fl with
    | ret u => exact I2.after hh
    | next => exact False.elim hh
    | brk => exact False.elim hh
    | cont => exact False.elim hh
end

section
variable {P : Program} {w : World} {K : PySem.W.Frag} {mg : Str → Option Value} {st : Stmt} {x y : Str} {k : Nat} {sp : Sp} {fa : Addr}
theorem end_law (D : Def K mg x st [y]) (hfa : mg x = some (.ref fa)) (F : ∀ base : Heap, CalG P w K mg base x k [y] sp)
    (hb : ∀ (kV doc pm : Value) (an : Option Addr) (cdv ct u : Value), bindArgs (PySem.W.fnOf x x (defArgs st) (defBody st) (defScope st) .none kV doc pm an cdv ct) ⟨[u], []⟩ = pure [(y, u)]) :
    ∃ fd : FuncData, (∀ (s : Shared) (u : Value), BindsTo s fd ⟨[u], []⟩ [(y, u)]) ∧ ∀ base : Heap, K.In base → base.Ns mainGlobals mg → FnG P w K mg base k fa fd [y] sp := by
  obtain ⟨f, fd, F', m, _⟩ := D
  have e1 : f = fa := by rw [hfa] at m; injection m with z; injection z with z; exact z.symm
  subst e1
  obtain ⟨oc, od, kV, doc, pm, an, cdv, ct, osl, e2, lk, _⟩ := F'.ex
  refine ⟨fd, fun s u => by rw [e2]; exact .of_eq (hb kV doc pm an cdv ct u), fun base _ _ => ?_⟩
  obtain ⟨f2, fd2, G, m2, _, _, oc2, od2, osl2, lk2⟩ := F base
  have e3 : f2 = f := by rw [hfa] at m2; injection m2 with z; injection z with z; exact z.symm
  subst e3
  rw [lk] at lk2
  injection lk2 with lk2
  injection lk2 with _ _ e4 _
  injection e4 with e4
  rw [e4]
  exact G
end

theorem with_def {R : Prop} {K : PySem.W.Frag} {mg : Str → Option Value} {x : Str} {st : Stmt} {ps : List Str} {h : Heap} {f : Addr} {oc kV dc pm cd ct : Value} {od an : Option Addr} {sl : Array (Option Value)} (X : K.In h) (G : h.Ns mainGlobals mg)
    (a : PySem.W.nsIn K mainGlobals x = some (some (.ref f)))
    (l : K.lookup f = some ⟨oc, od, .func (PySem.W.fnOf x x (defArgs st) (defBody st) (defScope st) .none kV dc pm an cd ct), sl⟩)
    (c : PySem.W.codeIn K cd x = true) (kp : PySem.W.keepIn K (.ref f) = true)
    (hb : ∀ (kV doc pm : Value) (an : Option Addr) (cdv ct : Value) (us : List Value), us.length = ps.length →
      bindArgs (PySem.W.fnOf x x (defArgs st) (defBody st) (defScope st) .none kV doc pm an cdv ct) ⟨us, []⟩ = pure (ps.zip us))
    (go : Def K mg x st ps → R) : R := go (def_mk X G a l c kp hb)
theorem with_no {R : Prop} {K : PySem.W.Frag} {mg : Str → Option Value} {x : Str} {h : Heap} (X : K.In h) (G : h.Ns mainGlobals mg) (z : PySem.W.nsIn K mainGlobals x = some none) (go : mg x = none → R) : R := go (PySem.W.mg_none_of X G z)
end Tw

set_option Elab.async false
set_option linter.all false
set_option maxRecDepth 100000
set_option maxHeartbeats 4000000
/-! comprehensions over data, small facts -/
namespace Tw
open PySem PySem.Spec PyProof.Rows L2
theorem same_upd {H H' : Hp} {D : Addr} {o : HO} (s : Same H H') (n : H D = none) : Same H (upd H' D o) := fun b u e => by
  rw [upd_ne (ne_of_none e n)]; exact s b u e
theorem kp_upd {a : Addr} {H H' : Hp} {D : Addr} {o : HO} (s : Kp a H H') (n : H D = none) : Kp a H (upd H' D o) := fun b u ne e => by
  rw [upd_ne (ne_of_none e n)]; exact s b u ne e
theorem lt_line {n : Nat} (h : n < 100000) : n < sizeLine := Nat.lt_of_lt_of_le h (by decide)
theorem take_map {α β : Type} (f : α → β) {ds : List α} {i : Nat} {d : α} (h : ds[i]? = some d) : (ds.take i).map f ++ [f d] = (ds.take (i + 1)).map f := by
  rw [List.take_add_one, h, List.map_append]; rfl
section
variable {K : PySem.W.Frag} {te : TE} {i j : Nat} {elt : TE} {vs : List Nat} {σ : L2.St} {H : Hp} {Q : VK} {a p : Addr} {xs : List V} {ds : List PyData}
/-- [f(d) for d in t], t a tuple of data -/
theorem lc_mapT (f : PyData → V) (hv : σ[i]? = some (some (.ref p))) (ht : H p = some (.tup xs)) (hd : DaAll a H xs ds) (hn : xs.length < 100000)
    (hw : ∀ x, wipe ((wipe σ vs).set j (some x)) vs = wipe σ vs)
    (he : ∀ x d H1, d ∈ ds → Same H H1 → Da a H1 x d → ∀ R : VK, (∀ H2, Same H1 H2 → R (f d) H2) → elt ((wipe σ vs).set j (some x)) H1 R)
    (q : ∀ D H', Same H H' → H D = none → H' D = some (.lst (ds.map f)) → Q (.ref D) H') : tLc (iTup K (tVar i)) (gName j) tYes elt vs σ H Q := by
  refine ⟨.ref p, hv, p, rfl, ⟨xs, SqT.of ht⟩, fun D hD => ?_⟩
  refine lc_tup (xs := xs) (fun m H' => Same H H' ∧ H' D = some (.lst ((ds.take m).map f))) ⟨same_new hD, upd_same⟩ (fun m H' _ h => SqT.of (h.1 _ _ ht)) (fun m x H1 hx h => ?_) (fun H' h => ?_)
  · obtain ⟨h1, h2⟩ := h
    obtain ⟨d, e1, e2⟩ := hd.get hx
    have hm : m < xs.length := (List.getElem?_eq_some_iff.mp hx).1
    refine ⟨hw x, ?_⟩
    unfold tYes
    simp only [if_true]
    refine he x d H1 (List.mem_of_getElem? e1) h1 (e2.same h1) _ fun H2 s2 => ⟨(ds.take m).map f, s2 _ _ h2, ?_, same_upd (h1.trans s2) hD, ?_⟩
    · rw [List.length_map, List.length_take]; exact lt_line (by omega)
    · rw [upd_same, take_map f e1]
  · obtain ⟨h1, h2⟩ := h
    rw [hd.len, List.take_length] at h2
    exact q D H' h1 hD h2
theorem lc_mapL (f : PyData → V) (hv : σ[i]? = some (some (.ref p))) (ht : H p = some (.lst xs)) (hd : DaAll a H xs ds) (hn : xs.length < 100000)
    (hw : ∀ x, wipe ((wipe σ vs).set j (some x)) vs = wipe σ vs)
    (he : ∀ x d H1, d ∈ ds → Same H H1 → Da a H1 x d → ∀ R : VK, (∀ H2, Same H1 H2 → R (f d) H2) → elt ((wipe σ vs).set j (some x)) H1 R)
    (q : ∀ D H', Same H H' → H D = none → H' D = some (.lst (ds.map f)) → Q (.ref D) H') : tLc (iList K (tVar i)) (gName j) tYes elt vs σ H Q := by
  refine ⟨.ref p, hv, p, rfl, ⟨xs, SqL.of ht⟩, fun D hD => ?_⟩
  refine lc_list (xs := xs) (fun m H' => Same H H' ∧ H' D = some (.lst ((ds.take m).map f))) ⟨same_new hD, upd_same⟩ (fun m H' _ h => SqL.of (h.1 _ _ ht)) (fun m x H1 hx h => ?_) (fun H' h => ?_)
  · obtain ⟨h1, h2⟩ := h
    obtain ⟨d, e1, e2⟩ := hd.get hx
    have hm : m < xs.length := (List.getElem?_eq_some_iff.mp hx).1
    refine ⟨hw x, ?_⟩
    unfold tYes
    simp only [if_true]
    refine he x d H1 (List.mem_of_getElem? e1) h1 (e2.same h1) _ fun H2 s2 => ⟨(ds.take m).map f, s2 _ _ h2, ?_, same_upd (h1.trans s2) hD, ?_⟩
    · rw [List.length_map, List.length_take]; exact lt_line (by omega)
    · rw [upd_same, take_map f e1]
  · obtain ⟨h1, h2⟩ := h
    rw [hd.len, List.take_length] at h2
    exact q D H' h1 hD h2
end

/-! ### kinds, tests of kinds -/
def isIntD : PyData → Bool
  | .int _ => true
  | .bool _ => true
  | _ => false
def isBoolD : PyData → Bool
  | .bool _ => true
  | _ => false
def isTupD : PyData → Bool
  | .tuple _ => true
  | _ => false
theorem isi_int {K : PySem.W.Frag} (d : PyData) : PySem.W.kitOne K (.type (kindOf d)) (.type "int") = some (isIntD d) := by
  cases d with
  | none => exact kit_ty (show kitB "NoneType" "int" = some false by decide +kernel)
  | bool _ => exact kit_ty (show kitB "bool" "int" = some true by decide +kernel)
  | int _ => exact kit_ty (show kitB "int" "int" = some true by decide +kernel)
  | str _ => exact kit_ty (show kitB "str" "int" = some false by decide +kernel)
  | list _ => exact kit_ty (show kitB "list" "int" = some false by decide +kernel)
  | tuple _ => exact kit_ty (show kitB "tuple" "int" = some false by decide +kernel)
  | dict _ => exact kit_ty (show kitB "dict" "int" = some false by decide +kernel)
theorem isi_bool {K : PySem.W.Frag} (d : PyData) : PySem.W.kitOne K (.type (kindOf d)) (.type "bool") = some (isBoolD d) := by
  cases d with
  | none => exact kit_ty (show kitB "NoneType" "bool" = some false by decide +kernel)
  | bool _ => exact kit_ty (show kitB "bool" "bool" = some true by decide +kernel)
  | int _ => exact kit_ty (show kitB "int" "bool" = some false by decide +kernel)
  | str _ => exact kit_ty (show kitB "str" "bool" = some false by decide +kernel)
  | list _ => exact kit_ty (show kitB "list" "bool" = some false by decide +kernel)
  | tuple _ => exact kit_ty (show kitB "tuple" "bool" = some false by decide +kernel)
  | dict _ => exact kit_ty (show kitB "dict" "bool" = some false by decide +kernel)
theorem isi_tup {K : PySem.W.Frag} (d : PyData) : PySem.W.kitOne K (.type (kindOf d)) (.type "tuple") = some (isTupD d) := by
  cases d with
  | none => exact kit_ty (show kitB "NoneType" "tuple" = some false by decide +kernel)
  | bool _ => exact kit_ty (show kitB "bool" "tuple" = some false by decide +kernel)
  | int _ => exact kit_ty (show kitB "int" "tuple" = some false by decide +kernel)
  | str _ => exact kit_ty (show kitB "str" "tuple" = some false by decide +kernel)
  | list _ => exact kit_ty (show kitB "list" "tuple" = some false by decide +kernel)
  | tuple _ => exact kit_ty (show kitB "tuple" "tuple" = some true by decide +kernel)
  | dict _ => exact kit_ty (show kitB "dict" "tuple" = some false by decide +kernel)
/-- isinstance(x, T) of a datum -/
theorem isi {K : PySem.W.Frag} {a : Addr} {H : Hp} {Q : VK} {v : V} {d : PyData} {T : String} {b : Bool} (h : Da a H v d) (k : PySem.W.kitOne K (.type (kindOf d)) (.type T) = some b) (q : Q (.bl b) H) :
    rIsi K [v, .ty T] H Q := ⟨v, .ty T, .type (kindOf d), .type T, b, rfl, .ty T, h.ty, k, q⟩

/-! ### how deep, how wide -/
mutual
def dep : PyData → Nat
  | .list ds => dep1 ds + 1
  | .tuple ds => dep1 ds + 1
  | _ => 0
def dep1 : List PyData → Nat
  | [] => 0
  | d :: ds => max (dep d) (dep1 ds)
end
mutual
def wid : PyData → Nat
  | .list ds => max ds.length (wid1 ds)
  | .tuple ds => max ds.length (wid1 ds)
  | _ => 0
def wid1 : List PyData → Nat
  | [] => 0
  | d :: ds => max (wid d) (wid1 ds)
end
theorem dep1_mem {d : PyData} : ∀ {ds : List PyData}, d ∈ ds → dep d ≤ dep1 ds
  | e :: ds, h => by
    rw [dep1]
    rcases List.mem_cons.mp h with rfl | h
    · exact Nat.le_max_left _ _
    · exact Nat.le_trans (dep1_mem h) (Nat.le_max_right _ _)
theorem wid1_mem {d : PyData} : ∀ {ds : List PyData}, d ∈ ds → wid d ≤ wid1 ds
  | e :: ds, h => by
    rw [wid1]
    rcases List.mem_cons.mp h with rfl | h
    · exact Nat.le_max_left _ _
    · exact Nat.le_trans (wid1_mem h) (Nat.le_max_right _ _)
theorem dep1_le {n : Nat} : ∀ {ds : List PyData}, (∀ d ∈ ds, dep d ≤ n) → dep1 ds ≤ n
  | [], _ => Nat.zero_le _
  | d :: ds, h => by
    rw [dep1]
    exact Nat.max_le.mpr ⟨h d (by simp), dep1_le fun e he => h e (by simp [he])⟩
theorem wid1_le {n : Nat} : ∀ {ds : List PyData}, (∀ d ∈ ds, wid d ≤ n) → wid1 ds ≤ n
  | [], _ => Nat.zero_le _
  | d :: ds, h => by
    rw [wid1]
    exact Nat.max_le.mpr ⟨h d (by simp), wid1_le fun e he => h e (by simp [he])⟩
/-- at most n deep, m wide -/
def Sm (n m : Nat) (d : PyData) : Prop := dep d ≤ n ∧ wid d ≤ m
theorem Sm.up {n m n' m' : Nat} {d : PyData} (h : Sm n m d) (h1 : n ≤ n') (h2 : m ≤ m') : Sm n' m' d := ⟨Nat.le_trans h.1 h1, Nat.le_trans h.2 h2⟩
theorem sm_tup {n m : Nat} {ds : List PyData} (hl : ds.length ≤ m) (h : ∀ d ∈ ds, Sm n m d) : Sm (n + 1) m (.tuple ds) :=
  ⟨by rw [dep]; exact Nat.succ_le_succ (dep1_le fun d hd => (h d hd).1), by rw [wid]; exact Nat.max_le.mpr ⟨hl, wid1_le fun d hd => (h d hd).2⟩⟩
theorem sm_lst {n m : Nat} {ds : List PyData} (hl : ds.length ≤ m) (h : ∀ d ∈ ds, Sm n m d) : Sm (n + 1) m (.list ds) :=
  ⟨by rw [dep]; exact Nat.succ_le_succ (dep1_le fun d hd => (h d hd).1), by rw [wid]; exact Nat.max_le.mpr ⟨hl, wid1_le fun d hd => (h d hd).2⟩⟩
theorem Sm.len {n m : Nat} {ds : List PyData} (h : Sm n m (.tuple ds)) : ds.length ≤ m := by
  have := h.2
  rw [wid] at this
  exact Nat.le_trans (Nat.le_max_left _ _) this
theorem Sm.dep1 {n m : Nat} {ds : List PyData} (h : Sm n m (.tuple ds)) : 1 ≤ n := by
  have := h.1
  rw [dep] at this
  omega
theorem Sm.mem {n m : Nat} {ds : List PyData} {d : PyData} (h : Sm n m (.tuple ds)) (hd : d ∈ ds) : Sm (n - 1) m d := by
  obtain ⟨h1, h2⟩ := h
  rw [dep] at h1
  rw [wid] at h2
  have := dep1_mem hd
  exact ⟨by omega, Nat.le_trans (wid1_mem hd) (Nat.le_trans (Nat.le_max_right _ _) h2)⟩
def smB (n m : Nat) (d : PyData) : Bool := decide (dep d ≤ n) && decide (wid d ≤ m)
theorem sm_of {n m : Nat} {d : PyData} (h : smB n m d = true) : Sm n m d := by
  unfold smB at h
  simpa [Sm] using h

/-- a loop over a range, its body already read -/
theorem for_rng {lo : Int} {n : Nat} {B : (L2.St → Hp → Prop) → V → L2.St → Hp → Prop} {nx : L2.St → Hp → Prop} {σ : L2.St} {H : Hp} (Pv : Nat → L2.St → Hp → Prop) (h0 : Pv 0 σ H)
    (hs : ∀ (i : Nat) σ' H', i < n → Pv i σ' H' → B (Pv (i + 1)) (.int (lo + i)) σ' H') (hd : ∀ σ' H', Pv n σ' H' → nx σ' H') :
    ∃ W : Nat → Nat → L2.St → Hp → Prop, (∃ m, W 0 m σ H) ∧ ∀ i m σ H, W i m σ H →
      ((Itr lo n).stop i H ∧ nx σ H) ∨ ((Itr lo n).go i H ∧ ∃ N : L2.St → Hp → Prop, (∀ σ' H', N σ' H' → ∃ m', m' < m ∧ W (i + 1) m' σ' H') ∧ ∀ x H', (Itr lo n).yld i H x H' → B N x σ H') := by
  refine ⟨fun i m σ H => m = n - i ∧ i ≤ n ∧ Pv i σ H, ⟨n, by simp, Nat.zero_le _, h0⟩, ?_⟩
  rintro i m σ' H' ⟨rfl, hi, p⟩
  by_cases c : i < n
  · refine Or.inr ⟨c, Pv (i + 1), fun σ2 H2 p2 => ⟨n - (i + 1), by omega, rfl, c, p2⟩, fun x H2 y => ?_⟩
    obtain ⟨e1, e2⟩ := y
    subst e1 e2
    exact hs i σ' _ c p
  · have e : i = n := by omega
    subst e
    exact Or.inl ⟨by show i ≤ i; omega, hd σ' H' p⟩

/-- a loop over a list, its body already read -/
theorem for_lst {K : PySem.W.Frag} {a : Addr} {xs : List V} {B : (L2.St → Hp → Prop) → V → L2.St → Hp → Prop} {nx : L2.St → Hp → Prop} {σ : L2.St} {H : Hp} (Pv : Nat → L2.St → Hp → Prop) (h0 : Pv 0 σ H)
    (hl : ∀ i σ' H', i ≤ xs.length → Pv i σ' H' → SqL K H' a xs)
    (hs : ∀ (i : Nat) x σ' H', xs[i]? = some x → Pv i σ' H' → B (Pv (i + 1)) x σ' H') (hd : ∀ σ' H', Pv xs.length σ' H' → nx σ' H') :
    ∃ W : Nat → Nat → L2.St → Hp → Prop, (∃ m, W 0 m σ H) ∧ ∀ i m σ H, W i m σ H →
      ((Itl K a).stop i H ∧ nx σ H) ∨ ((Itl K a).go i H ∧ ∃ N : L2.St → Hp → Prop, (∀ σ' H', N σ' H' → ∃ m', m' < m ∧ W (i + 1) m' σ' H') ∧ ∀ x H', (Itl K a).yld i H x H' → B N x σ H') := by
  refine ⟨fun i m σ H => m = xs.length - i ∧ i ≤ xs.length ∧ Pv i σ H, ⟨xs.length, by simp, Nat.zero_le _, h0⟩, ?_⟩
  rintro i m σ' H' ⟨rfl, hi, p⟩
  have ql := hl i σ' H' hi p
  by_cases c : i < xs.length
  · refine Or.inr ⟨⟨xs, xs[i], ql, by simp [c]⟩, Pv (i + 1), fun σ2 H2 p2 => ⟨xs.length - (i + 1), by omega, rfl, c, p2⟩, fun x H2 y => ?_⟩
    obtain ⟨e1, e2⟩ := y
    subst e1
    exact hs i x σ' _ (e2 xs ql) p
  · have e : i = xs.length := by omega
    subst e
    exact Or.inl ⟨⟨xs, ql, Nat.le_refl _⟩, hd σ' H' p⟩

theorem same_kp {a : Addr} {H H1 H2 : Hp} (s : Same H H1) (n : H a = none) (k : Kp a H1 H2) : Same H H2 := fun b o e => k b o (ne_of_none e n) (s b o e)
/-- [f(i) for i in range(n)] -/
theorem lc_rng {wi : TI} {j : Nat} {elt : TE} {vs : List Nat} {σ : L2.St} {H : Hp} {Q : VK} {n : Nat} (f : Nat → V) (hi : ∀ R : It → Hp → Prop, R (Itr 0 n) H → wi σ H R) (hn : n < 100000)
    (hw : ∀ x, wipe ((wipe σ vs).set j (some x)) vs = wipe σ vs)
    (he : ∀ (i : Nat) H1, i < n → Same H H1 → ∀ R : VK, (∀ H2, Same H1 H2 → R (f i) H2) → elt ((wipe σ vs).set j (some (.int (0 + (i : Int))))) H1 R)
    (q : ∀ D H', Same H H' → H D = none → H' D = some (.lst ((List.range n).map f)) → Q (.ref D) H') : tLc wi (gName j) tYes elt vs σ H Q := by
  refine hi _ fun D hD => ?_
  refine lc_range (lo := 0) (n := n) (fun m H' => Same H H' ∧ H' D = some (.lst ((List.range m).map f))) ⟨same_new hD, upd_same⟩ (fun m H1 hm h => ?_) (fun H' h => q D H' h.1 hD h.2)
  obtain ⟨h1, h2⟩ := h
  refine ⟨hw _, ?_⟩
  unfold tYes
  simp only [if_true]
  refine he m H1 hm h1 _ fun H2 s2 => ⟨(List.range m).map f, s2 _ _ h2, ?_, same_upd (h1.trans s2) hD, ?_⟩
  · rw [List.length_map, List.length_range]; exact lt_line (by omega)
  · rw [upd_same, List.range_succ, List.map_append]; rfl
end Tw

set_option Elab.async false
set_option linter.all false
set_option maxRecDepth 100000
set_option maxHeartbeats 4000000
/-! numbers that may be True or False -/
namespace Tw
open PySem PySem.Spec PyProof.Rows L2
/-- a number, True and False among them -/
inductive Nu : V → Int → Prop
  | int (i : Int) : Nu (.int i) i
  | bl (b : Bool) : Nu (.bl b) (if b = true then 1 else 0)
theorem nu_of {a : Addr} {H : Hp} {v : V} {d : PyData} (h : Da a H v d) (t : isIntD d = true) : ∃ i, Nu v i := by
  cases h with
  | int i => exact ⟨i, .int i⟩
  | bl b => exact ⟨_, .bl b⟩
  | _ => cases t
def rNl (f : Int → Int → Int) : R2 := fun x y H Q => ∃ i j, Nu x i ∧ y = .int j ∧ Q (.int (f i j)) H
def rNr (f : Int → Int → Int) : R2 := fun x y H Q => ∃ i j, x = .int i ∧ Nu y j ∧ Q (.int (f i j)) H
section
variable {X : Cx}
theorem op_addNl : OpR X (binaryOp .Add) (rNl fun i j => i + j) := by
  intro pins s σ H x y v u Q I rx ry h
  obtain ⟨i, j, nx, rfl, q⟩ := h
  obtain ⟨t, rfl⟩ := ry
  cases nx with
  | int _ => obtain ⟨t', rfl⟩ := rx; exact add_int ⟨.int _, H, I.tok _, ⟨_, rfl⟩, q⟩
  | bl b => cases rx; exact IntBool.add_bool_int ⟨.int _, H, I.tok _, ⟨_, rfl⟩, q⟩
theorem op_subNl : OpR X (binaryOp .Sub) (rNl fun i j => i - j) := by
  intro pins s σ H x y v u Q I rx ry h
  obtain ⟨i, j, nx, rfl, q⟩ := h
  obtain ⟨t, rfl⟩ := ry
  cases nx with
  | int _ => obtain ⟨t', rfl⟩ := rx; exact sub_int ⟨.int _, H, I.tok _, ⟨_, rfl⟩, q⟩
  | bl b => cases rx; exact IntBool.sub_bool_int ⟨.int _, H, I.tok _, ⟨_, rfl⟩, q⟩
theorem op_subNr : OpR X (binaryOp .Sub) (rNr fun i j => i - j) := by
  intro pins s σ H x y v u Q I rx ry h
  obtain ⟨i, j, rfl, ny, q⟩ := h
  obtain ⟨t, rfl⟩ := rx
  cases ny with
  | int _ => obtain ⟨t', rfl⟩ := ry; exact sub_int ⟨.int _, H, I.tok _, ⟨_, rfl⟩, q⟩
  | bl b => cases ry; exact IntBool.sub_int_bool ⟨.int _, H, I.tok _, ⟨_, rfl⟩, q⟩
/-- a small number times such a one -/
theorem op_mulNr : OpR X (binaryOp .Mult) (fun x y H Q => ∃ i j, x = .int i ∧ (-(2 ^ 64) < i ∧ i < 2 ^ 64) ∧ Nu y j ∧ Q (.int (i * j)) H) := by
  intro pins s σ H x y v u Q I rx ry h
  obtain ⟨i, j, rfl, ⟨b1, b2⟩, ny, q⟩ := h
  obtain ⟨t, rfl⟩ := rx
  cases ny with
  | int _ => obtain ⟨t', rfl⟩ := ry; exact mul_int ⟨.int _, H, I.tok _, ⟨_, rfl⟩, q⟩ (.of_left (intBits_le_64 b1 b2))
  | bl b => cases ry; exact IntBool.mul_int_bool ⟨.int _, H, I.tok _, ⟨_, rfl⟩, q⟩
/-- == of such a number and an int -/
theorem op_eqNl : OpR X (compareOp .Eq) (fun x y H Q => ∃ i j, Nu x i ∧ y = .int j ∧ Q (.bl (i == j)) H) := by
  intro pins s σ H x y v u Q I rx ry h
  obtain ⟨i, j, nx, rfl, q⟩ := h
  obtain ⟨t, rfl⟩ := ry
  cases nx with
  | int _ => obtain ⟨t', rfl⟩ := rx; exact eq_int ⟨.bl _, H, I, rfl, q⟩
  | bl b => cases rx; exact EqBoolInt.eq_bool_int ⟨.bl _, H, I, rfl, q⟩
end
end Tw

set_option Elab.async false
set_option linter.all false
set_option maxRecDepth 100000
set_option maxHeartbeats 4000000
/-! slices, sums, turned tuples of data -/
namespace Tw
open PySem PySem.Spec PyProof.Rows L2
section
variable {K : PySem.W.Frag} {a : Addr} {H : Hp} {v u : V} {ds es : List PyData} {Q : VK}
theorem da_tup (h : Da a H v (.tuple ds)) : ∃ p xs, v = .ref p ∧ p ≠ a ∧ H p = some (.tup xs) ∧ DaAll a H xs ds := by
  cases h with
  | tup n e r => exact ⟨_, _, rfl, n, e, r⟩
theorem cut_whole {ds : List PyData} {lo hi : Option Int} (h : HT.sIx ds.length 0 lo = 0 ∧ HT.sIx ds.length ds.length hi = ds.length) : cutD ds lo hi = ds := by
  unfold cutD
  rw [h.1, h.2, List.drop_zero, Nat.sub_zero, List.take_length]
theorem sl_da {lo hi : Option Int} (w : H a ≠ none) (h : Da a H v (.tuple ds)) (q : ∀ v' H', Same H H' → Da a H' v' (.tuple (cutD ds lo hi)) → Q v' H') : rSlA K v lo hi H Q := by
  obtain ⟨p, xs, rfl, np, hp, hx⟩ := da_tup h
  refine ⟨p, xs, rfl, SqT.of hp, fun c => ?_, fun c t nt => ?_⟩
  · rw [hx.len] at c
    exact q _ _ (Same.refl H) (by rw [cut_whole c]; exact h)
  · have s := same_new (o := .tup (cutV xs lo hi)) nt
    exact q _ _ s (.tup (new_ne w nt) upd_same ((hx.cut lo hi).same s))
theorem cat_da (w : H a ≠ none) (h : Da a H v (.tuple ds)) (g : Da a H u (.tuple es)) (hz : ds.length + es.length ≤ 100000) (q : ∀ v' H', Same H H' → Da a H' v' (.tuple (ds ++ es)) → Q v' H') : rCatA K v u H Q := by
  obtain ⟨p, xs, rfl, np, hp, hx⟩ := da_tup h
  obtain ⟨r, ys, rfl, nr, hr, hy⟩ := da_tup g
  refine ⟨p, r, xs, ys, rfl, rfl, SqT.of hp, SqT.of hr, sz (by rw [hx.len, hy.len]; exact hz), fun c => ?_, fun c c2 => ?_, fun c c2 t nt => ?_⟩
  · subst c
    cases hx
    exact q _ _ (Same.refl H) g
  · subst c2
    cases hy
    exact q _ _ (Same.refl H) (by rw [List.append_nil]; exact h)
  · have s := same_new (o := .tup (xs ++ ys)) nt
    exact q _ _ s (.tup (new_ne w nt) upd_same ((hx.append hy).same s))
theorem rev_da (w : H a ≠ none) (h : Da a H v (.tuple ds)) (q : ∀ v' H', Same H H' → Da a H' v' (.tuple ds.reverse) → Q v' H') :
    ∃ p xs, v = .ref p ∧ SqT K H p xs ∧ ∀ t, H t = none → Q (.ref t) (upd H t (.tup xs.reverse)) := by
  obtain ⟨p, xs, rfl, np, hp, hx⟩ := da_tup h
  refine ⟨p, xs, rfl, SqT.of hp, fun t nt => ?_⟩
  have s := same_new (o := .tup xs.reverse) nt
  exact q _ _ s (.tup (new_ne w nt) upd_same (hx.rev.same s))
theorem list_da (w : H a ≠ none) (h : Da a H v (.tuple ds)) (q : ∀ v' H', Same H H' → Da a H' v' (.list ds) → Q v' H') :
    ∃ p ys, [v] = [.ref p] ∧ (SqL K H p ys ∨ SqT K H p ys) ∧ ∀ l, H l = none → Q (.ref l) (upd H l (.lst ys)) := by
  obtain ⟨p, xs, rfl, np, hp, hx⟩ := da_tup h
  refine ⟨p, xs, rfl, .inr (SqT.of hp), fun t nt => ?_⟩
  have s := same_new (o := .lst xs) nt
  exact q _ _ s (.lst (new_ne w nt) upd_same (hx.same s))
/-- a written tuple of values that are data -/
theorem tup_da {vs : List V} (w : H a ≠ none) (h : DaAll a H vs ds) (hz : ds.length ≤ 100000) (q : ∀ v' H', Same H H' → Da a H' v' (.tuple ds) → Q v' H') :
    vs.length ≤ sizeLine ∧ ∀ p, H p = none → Q (.ref p) (upd H p (.tup vs)) := by
  refine ⟨sz (by rw [h.len]; exact hz), fun t nt => ?_⟩
  have s := same_new (o := .tup vs) nt
  exact q _ _ s (.tup (new_ne w nt) upd_same (h.same s))
theorem newT {vs : List V} {p : Addr} (w : H a ≠ none) (h : DaAll a H vs ds) (n : H p = none) : Same H (upd H p (.tup vs)) ∧ Da a (upd H p (.tup vs)) (.ref p) (.tuple ds) :=
  ⟨same_new n, .tup (new_ne w n) upd_same (h.same (same_new n))⟩
theorem newL {vs : List V} {p : Addr} (w : H a ≠ none) (h : DaAll a H vs ds) (n : H p = none) : Same H (upd H p (.lst vs)) ∧ Da a (upd H p (.lst vs)) (.ref p) (.list ds) :=
  ⟨same_new n, .lst (new_ne w n) upd_same (h.same (same_new n))⟩
/-- an item of such a one -/
theorem ix_da {i : Int} (h : Da a H v (.tuple ds)) (i0 : 0 ≤ i) (i1 : i < ds.length) (q : ∀ x d, d ∈ ds → Da a H x d → Q x H) : rIxT K v (.int i) H Q := by
  obtain ⟨p, xs, rfl, np, hp, hx⟩ := da_tup h
  obtain ⟨m, rfl⟩ := Int.eq_ofNat_of_zero_le i0
  have hm : m < xs.length := by rw [hx.len]; omega
  obtain ⟨d, e1, e2⟩ := hx.get (List.getElem?_eq_getElem hm)
  exact ⟨p, xs, _, xs[m], rfl, rfl, SqT.of hp, atI_nat (List.getElem?_eq_getElem hm), q _ d (List.mem_of_getElem? e1) e2⟩
end
theorem cut_mem {ds : List PyData} {lo hi : Option Int} {d : PyData} (h : d ∈ cutD ds lo hi) : d ∈ ds := List.mem_of_mem_drop (List.mem_of_mem_take h)
theorem cut_le (ds : List PyData) (lo hi : Option Int) : (cutD ds lo hi).length ≤ ds.length := by
  unfold cutD
  rw [List.length_take, List.length_drop]
  omega
theorem cut_upto (ds : List PyData) (k : Nat) : (cutD ds none (some (k : Int))).length = min k ds.length := by
  unfold cutD
  rw [HT.sIx_nat, HT.sIx_none, List.drop_zero, Nat.sub_zero, List.length_take]
  omega
theorem cut_from (ds : List PyData) (k : Nat) : (cutD ds (some (k : Int)) none).length = ds.length - min k ds.length := by
  unfold cutD
  rw [HT.sIx_nat, HT.sIx_none, List.length_take, List.length_drop]
  omega
theorem sm_sub {n m n' m' : Nat} {ds es : List PyData} (h : Sm n m (.tuple ds)) (hl : es.length ≤ m') (h1 : n ≤ n') (h2 : m ≤ m') (he : ∀ e ∈ es, e ∈ ds ∨ Sm (n' - 1) m' e) : Sm n' m' (.tuple es) := by
  have n1 := h.dep1
  have := sm_tup (n := n' - 1) hl fun e q => by
    rcases he e q with c | c
    · exact (h.mem c).up (by omega) h2
    · exact c
  exact this.up (by omega) (Nat.le_refl _)
theorem sm_subL {n m n' m' : Nat} {ds es : List PyData} (h : Sm n m (.tuple ds)) (hl : es.length ≤ m') (h1 : n ≤ n') (h2 : m ≤ m') (he : ∀ e ∈ es, e ∈ ds ∨ Sm (n' - 1) m' e) : Sm n' m' (.list es) := by
  have n1 := h.dep1
  have := sm_lst (n := n' - 1) hl fun e q => by
    rcases he e q with c | c
    · exact (h.mem c).up (by omega) h2
    · exact c
  exact this.up (by omega) (Nat.le_refl _)
theorem sm_int (n m : Nat) (i : Int) : Sm n m (.int i) := ⟨Nat.zero_le _, Nat.zero_le _⟩
theorem sm_bl (n m : Nat) (b : Bool) : Sm n m (.bool b) := ⟨Nat.zero_le _, Nat.zero_le _⟩
end Tw

set_option Elab.async false
set_option linter.all false
set_option maxRecDepth 100000
set_option maxHeartbeats 4000000
local macro_rules | `(tactic| walk_at "rd") => `(tactic| dsimp only [L2.tSeq, L2.tNext, L2.tRet, L2.tRetN, L2.tAsg, L2.gName, L2.tIfS, L2.tDrop, L2.tCons, L2.tNil, L2.tC, L2.tVar, L2.tCB, L2.tAndV, L2.tOrV, L2.tNotV, L2.tB, L2.tTest, L2.tOp, L2.tUn, L2.tNot, L2.tAnd, L2.tOr, L2.tIf, L2.tCall, L2.tTup, L2.tLst, L2.tNotT, L2.tYes])
namespace K21
open PySem PySem.Spec PyProof.Rows L2 Tw
def top (i : Nat) : Stmt := PySem.Challenge.pw_twoletters_k21_polys_of_anything.main.body.getD i (.Pass ⟨0, 0, 0, 0⟩)
abbrev sWhole : Stmt := top 1
abbrev sRow : Stmt := top 3
abbrev sPoly : Stmt := top 5
abbrev sWell : Stmt := top 7
abbrev sDraw : Stmt := top 8
abbrev sPick : Stmt := top 9
abbrev sTrim : Stmt := top 10
abbrev sNum : Stmt := top 11
abbrev sLRow : Stmt := top 12
abbrev sLPoly : Stmt := top 13
abbrev sIsRow : Stmt := top 14
abbrev sIsPoly : Stmt := top 15
abbrev sOdd : Stmt := top 16
abbrev sBent : Stmt := top 17
abbrev sRight : Stmt := top 18
abbrev sLaw : Stmt := top 19
/-- built-in names that the text gives no other meaning -/
structure Nb (mg : Str → Option Value) : Prop where
  isi : mg "isinstance" = none
  int : mg "int" = none
  bool : mg "bool" = none
  tup : mg "tuple" = none
  all : mg "all" = none
  len : mg "len" = none
  lst : mg "list" = none
  dvm : mg "divmod" = none
  rng : mg "range" = none
  max : mg "max" = none
  min : mg "min" = none
  abs : mg "abs" = none
  repr : mg "repr" = none

/-! ### what the answers are -/
def wholeB (d : PyData) : Bool := isIntD d && !isBoolD d
def lastD (ds : List PyData) (d : PyData) : Bool := match ds.getLast? with
  | some e => !(PyData.eqv e d)
  | none => true
def rowB : PyData → Bool
  | .tuple ds => (ds.map wholeB).all id && lastD ds (.int 0)
  | _ => false
def polyB : PyData → Bool
  | .tuple ds => (ds.map rowB).all id && lastD ds (.tuple [])
  | _ => false
/-- the answer is f of the datum -/
def spB (f : PyData → Bool) : Sp := fun vs H Q _ => ∃ a v d m, vs = [v] ∧ Da a H v d ∧ Sm m 1000 d ∧ ∀ H', Same H H' → Q (.bl (f d)) H'

theorem getLast_get {α : Type} {xs : List α} {x : α} (h : xs.getLast? = some x) : xs[xs.length - 1]? = some x := by
  rw [← List.getLast?_eq_getElem?]; exact h
theorem atI_end {α : Type} {xs : List α} {x : α} (h : xs.getLast? = some x) : atI xs (-1) = some x := by
  obtain ⟨ys, rfl⟩ := List.getLast?_eq_some_iff.mp h
  exact atI_last _ _
theorem last_both {a : Addr} {H : Hp} {xs : List V} {ds : List PyData} (h : DaAll a H xs ds) (ne : ds ≠ []) : ∃ x d, xs.getLast? = some x ∧ ds.getLast? = some d ∧ d ∈ ds ∧ Da a H x d := by
  have l := h.len
  have hp : 0 < ds.length := List.length_pos_iff.mpr ne
  have hx : xs.length - 1 < xs.length := by omega
  obtain ⟨d, e1, e2⟩ := h.get (List.getElem?_eq_getElem hx)
  refine ⟨xs[xs.length - 1], d, ?_, ?_, List.mem_of_getElem? e1, e2⟩
  · rw [List.getLast?_eq_getElem?]; exact List.getElem?_eq_getElem hx
  · rw [List.getLast?_eq_getElem?, ← l]; exact e1
section
variable {P : Program} {w : World} {K : PySem.W.Frag} {mg : Str → Option Value} {base : Heap}
theorem scWhole : FnScope ["value"] ["value"] (defScope sWhole) := ⟨rfl, rfl, rfl, by decide +kernel, rfl, by decide +kernel, by decide +kernel⟩
theorem ok_whole (D : Def K mg "is_whole" sWhole ["value"]) (nb : Nb mg) : Cal P w K mg base "is_whole" 1 ["value"] (spB wholeB) := by
  refine D.ok scWhole (fun vs H Q E h => ?_) (fun f cdv A out s H vs Q E hr h => ?_)
  · obtain ⟨a, v, d, m, rfl, _⟩ := h; rfl
  obtain ⟨a, v, d, m, rfl, hd, hs, q⟩ := h
  refine ⟨_, pss_one (ps_ret (pe_and (pe_callB (id := "isinstance") (r := rIsi K) call_isi (by rfl) nb.isi (by decide +kernel) (pa_cons (pv 0) (pa_cons (pe_bltn (v := .ty "int") (by rfl) nb.int (by decide +kernel) rfl) pa_nil)))
    (pe_one (pe_not (pe_callB (id := "isinstance") (r := rIsi K) call_isi (by rfl) nb.isi (by decide +kernel) (pa_cons (pv 0) (pa_cons (pe_bltn (v := .ty "bool") (by rfl) nb.bool (by decide +kernel) rfl) pa_nil))))))), ?_⟩
  walk_at "rd"
  refine ⟨v, rfl, isi hd (isi_int d) ⟨isIntD d, rfl, ?_⟩⟩
  have q' := q H (Same.refl H)
  unfold wholeB at q'
  cases hi : isIntD d with
  | false => rw [hi] at q'; exact iteF q'
  | true =>
    rw [hi] at q'
    refine iteT ⟨v, rfl, isi hd (isi_bool d) ⟨isBoolD d, rfl, q'⟩⟩

theorem tup_of {a : Addr} {H : Hp} {v : V} {d : PyData} (h : Da a H v d) (t : isTupD d = true) : ∃ p xs ds, v = .ref p ∧ d = .tuple ds ∧ p ≠ a ∧ H p = some (.tup xs) ∧ DaAll a H xs ds := by
  cases h with
  | tup n e r => exact ⟨_, _, _, rfl, rfl, n, e, r⟩
  | _ => exact absurd t (by simp [isTupD])
theorem int_of {a : Addr} {H : Hp} {v : V} {d : PyData} (h : Da a H v d) (t : wholeB d = true) : ∃ i, v = .int i ∧ d = .int i := by
  cases h with
  | int i => exact ⟨i, rfl, rfl⟩
  | _ => exact absurd t (by simp [wholeB, isIntD, isBoolD])
theorem not_tup {d : PyData} (h : isTupD d = false) : rowB d = false ∧ polyB d = false := by
  cases d <;> first | exact ⟨rfl, rfl⟩ | cases h
theorem row_tup {d : PyData} (h : rowB d = true) : isTupD d = true := by
  cases d <;> first | rfl | cases h
theorem all_mem {f : PyData → Bool} {ds : List PyData} {d : PyData} (h : (ds.map f).all id = true) (m : d ∈ ds) : f d = true := by
  rw [List.all_eq_true] at h
  exact h (f d) (List.mem_map_of_mem m)
theorem empty_iff {a : Addr} {H : Hp} {xs : List V} {ds : List PyData} (h : DaAll a H xs ds) : xs.isEmpty = ds.isEmpty := by
  cases h <;> rfl
theorem wipe1 (σ : L2.St) (j : Nat) (x : V) : wipe ((wipe σ [j]).set j (some x)) [j] = wipe σ [j] := by
  show ((σ.set j none).set j (some x)).set j none = σ.set j none
  rw [List.set_set, List.set_set]

theorem scRow : FnScope ["value", "number"] ["value"] (defScope sRow) := ⟨rfl, rfl, rfl, by decide +kernel, rfl, by decide +kernel, by decide +kernel⟩
theorem ok_row (D : Def K mg "is_row" sRow ["value"]) (nb : Nb mg) (c1 : Cal P w K mg base "is_whole" 1 ["value"] (spB wholeB)) : Cal P w K mg base "is_row" 2 ["value"] (spB rowB) := by
  refine D.ok scRow (fun vs H Q E h => ?_) (fun f cdv A out s H vs Q E hr h => ?_)
  · obtain ⟨a, v, d, m, rfl, _⟩ := h; rfl
  obtain ⟨a, v, d, m, rfl, hd, hs, q⟩ := h
  refine ⟨_, pss_cons (ps_if (PW.pt (pw_or (pt_not (pt_val (pe_callB (id := "isinstance") (r := rIsi K) call_isi (by rfl) nb.isi (by decide +kernel) (pa_cons (pv 0) (pa_cons (pe_bltn (v := .ty "tuple") (by rfl) nb.tup (by decide +kernel) rfl) pa_nil)))))
      (pw_or1 (pt_not (pt_val (pe_callB (cr_all rfl) (by rfl) nb.all (by decide +kernel) (pa_cons
        (pe_lc (own := [("number", 1)]) (g := gName 1) (tt := tYes) rfl scRow.nd (pi_tup (pv 0)) (blkOk_by (N := ["value", "number"]) (sc := defScope sRow) (by decide +kernel))
          (fun _ _ _ _ _ => pg_name (i := 1) scRow.nd rfl (Or.inl rfl)) (fun _ _ _ _ _ => pts_nil) (fun _ _ _ _ _ => pe_cal c1 hr (Nat.le_refl 1) (by rfl) (pa_cons (pv 1) pa_nil))) pa_nil)))))))
      (pss_one (ps_ret pe_bl)) pss_nil)
    (pss_one (ps_ret (pe_or (pe_notT (pv 0)) (pe_one (pe_cmpR op_ne (pe_ix ix_tup (pv 0) (pe_un un_neg pe_int) (fun _ _ => rfl)) pe_int (nomark _)))))), ?_⟩
  walk_at "rd"
  refine ⟨v, rfl, isi hd (isi_tup d) ⟨isTupD d, rfl, ?_⟩⟩
  cases ht : isTupD d with
  | false =>
    have q' := q H (Same.refl H)
    rw [(not_tup ht).1] at q'
    exact iteT (iteT q')
  | true =>
    obtain ⟨p, xs, ds, rfl, rfl, np, hp, hx⟩ := tup_of hd ht
    have hn : xs.length < 100000 := by rw [hx.len]; have := hs.len; omega
    refine iteF (lc_mapT (fun d => V.bl (wholeB d)) rfl hp hx hn (wipe1 _ 1) (fun x d H1 hm s1 dx R k => ?_) fun L H1 s1 nL hL => ?_)
    · exact ⟨x, rfl, a, x, d, _, rfl, dx, hs.mem hm, k⟩
    refine ⟨L, ds.map wholeB, rfl, SqL.of (by rw [List.map_map]; exact hL), _, rfl, ?_⟩
    have q' : Q (.bl ((ds.map wholeB).all id && lastD ds (.int 0))) H1 := q H1 s1
    cases hw : (ds.map wholeB).all id with
    | false => rw [hw] at q'; exact iteT q'
    | true =>
      rw [hw] at q'
      refine iteF ⟨.ref p, rfl, _, .inr (.inl ⟨xs, SqT.of (s1 _ _ hp), rfl⟩), _, rfl, ?_⟩
      rw [empty_iff hx, Bool.not_not]
      cases hds : ds with
      | nil => subst hds; exact iteT q'
      | cons d0 dr =>
        have ne : ds ≠ [] := by rw [hds]; simp
        obtain ⟨x, dl, e1, e2, e3, e4⟩ := last_both hx ne
        obtain ⟨i, rfl, rfl⟩ := int_of e4 (all_mem hw e3)
        refine iteF ⟨.ref p, rfl, 1, rfl, p, xs, -1, .int i, rfl, rfl, SqT.of (s1 _ _ hp), atI_end e1, rfl, ?_⟩
        unfold lastD at q'
        rw [e2] at q'
        rw [dec_int]
        simpa [PyData.eqv] using q'

/-- not value or value[-1] != 0, both ways of saying it: what is asked of the last number -/
theorem end_int {a p : Addr} {H : Hp} {Q : VK} {xs : List V} {ds : List PyData} (hx : DaAll a H xs ds) (hp : H p = some (.tup xs)) (ne : ds ≠ []) (hw : (ds.map wholeB).all id = true)
    (q : Q (.bl (lastD ds (.int 0))) H) : rIxT K (.ref p) (.int (-1)) H fun x H1 => rNe x (.int 0) H1 Q := by
  obtain ⟨x, dl, e1, e2, e3, e4⟩ := last_both hx ne
  obtain ⟨i, rfl, rfl⟩ := int_of e4 (all_mem hw e3)
  refine ⟨p, xs, -1, .int i, rfl, rfl, SqT.of hp, atI_end e1, rfl, ?_⟩
  unfold lastD at q
  rw [e2] at q
  rw [dec_int]
  simpa [PyData.eqv] using q

theorem scIsRow : FnScope ["_law_thing", "_law_each"] ["_law_thing"] (defScope sIsRow) := ⟨rfl, rfl, rfl, by decide +kernel, rfl, by decide +kernel, by decide +kernel⟩
theorem ok_isRow (D : Def K mg "_law_is_row" sIsRow ["_law_thing"]) (nb : Nb mg) : Cal P w K mg base "_law_is_row" 2 ["_law_thing"] (spB rowB) := by
  refine D.ok scIsRow (fun vs H Q E h => ?_) (fun f cdv A out s H vs Q E hr h => ?_)
  · obtain ⟨a, v, d, m, rfl, _⟩ := h; rfl
  obtain ⟨a, v, d, m, rfl, hd, hs, q⟩ := h
  refine ⟨_, pss_cons (ps_if (pt_not (pt_val (pe_callB (id := "isinstance") (r := rIsi K) call_isi (by rfl) nb.isi (by decide +kernel) (pa_cons (pv 0) (pa_cons (pe_bltn (v := .ty "tuple") (by rfl) nb.tup (by decide +kernel) rfl) pa_nil)))))
      (pss_one (ps_ret pe_bl)) pss_nil)
    (pss_cons (ps_if (pt_not (pt_val (pe_callB (cr_all rfl) (by rfl) nb.all (by decide +kernel) (pa_cons
        (pe_lc (own := [("_law_each", 1)]) (g := gName 1) (tt := tYes) rfl scIsRow.nd (pi_tup (pv 0)) (blkOk_by (N := ["_law_thing", "_law_each"]) (sc := defScope sIsRow) (by decide +kernel))
          (fun _ _ _ _ _ => pg_name (i := 1) scIsRow.nd rfl (Or.inl rfl)) (fun _ _ _ _ _ => pts_nil)
          (fun _ _ _ _ _ => pe_and (pe_callB (id := "isinstance") (r := rIsi K) call_isi (by rfl) nb.isi (by decide +kernel) (pa_cons (pv 1) (pa_cons (pe_bltn (v := .ty "int") (by rfl) nb.int (by decide +kernel) rfl) pa_nil)))
            (pe_one (pe_not (pe_callB (id := "isinstance") (r := rIsi K) call_isi (by rfl) nb.isi (by decide +kernel) (pa_cons (pv 1) (pa_cons (pe_bltn (v := .ty "bool") (by rfl) nb.bool (by decide +kernel) rfl) pa_nil)))))))
        pa_nil)))) (pss_one (ps_ret pe_bl)) pss_nil)
    (pss_one (ps_ret (pe_or (pe_cmpR (op_eqT0 hr.units) (pv 0) (pe_tup pa_nil) (nomark _)) (pe_one (pe_cmpR op_ne (pe_ix ix_tup (pv 0) (pe_un un_neg pe_int) (fun _ _ => rfl)) pe_int (nomark _))))))), ?_⟩
  walk_at "rd"
  refine ⟨v, rfl, isi hd (isi_tup d) ⟨isTupD d, rfl, ?_⟩⟩
  cases ht : isTupD d with
  | false =>
    have q' := q H (Same.refl H)
    rw [(not_tup ht).1] at q'
    exact iteT q'
  | true =>
    obtain ⟨p, xs, ds, rfl, rfl, np, hp, hx⟩ := tup_of hd ht
    have hn : xs.length < 100000 := by rw [hx.len]; have := hs.len; omega
    refine iteF (lc_mapT (fun d => V.bl (wholeB d)) rfl hp hx hn (wipe1 _ 1) (fun x d H1 hm s1 dx R k => ?_) fun L H1 s1 nL hL => ?_)
    · walk_at "rd"
      refine ⟨x, rfl, isi dx (isi_int d) ⟨isIntD d, rfl, ?_⟩⟩
      have q' := k H1 (Same.refl H1)
      unfold wholeB at q'
      cases hi : isIntD d with
      | false => rw [hi] at q'; exact iteF q'
      | true => rw [hi] at q'; exact iteT ⟨x, rfl, isi dx (isi_bool d) ⟨isBoolD d, rfl, q'⟩⟩
    refine ⟨L, ds.map wholeB, rfl, SqL.of (by rw [List.map_map]; exact hL), _, rfl, ?_⟩
    cases hw : (ds.map wholeB).all id with
    | false =>
      have q' : Q (.bl ((ds.map wholeB).all id && lastD ds (.int 0))) H1 := q H1 s1
      rw [hw] at q'
      exact iteT q'
    | true =>
      refine iteF ⟨.ref p, rfl, sz (by decide), fun t nt => ?_⟩
      have s2 := s1.trans (same_new (o := .tup []) nt)
      have q' : Q (.bl ((ds.map wholeB).all id && lastD ds (.int 0))) _ := q _ s2
      rw [hw] at q'
      refine ⟨p, t, xs, [], rfl, rfl, SqT.of (s2 _ _ hp), SqT.of upd_same, rfl, xs.isEmpty, rfl, ?_⟩
      rw [empty_iff hx]
      cases hds : ds with
      | nil => subst hds; exact iteT q'
      | cons d0 dr =>
        have ne : ds ≠ [] := by rw [hds]; simp
        exact iteF ⟨.ref p, rfl, 1, rfl, end_int (hx.same s2) (s2 _ _ hp) ne hw q'⟩

/-- .. of the last row -/
theorem end_row {a p : Addr} {H : Hp} {Q : VK} {xs : List V} {ds : List PyData} (hx : DaAll a H xs ds) (hp : H p = some (.tup xs)) (ne : ds ≠ []) (hw : (ds.map rowB).all id = true)
    (q : ∀ H', Same H H' → Q (.bl (lastD ds (.tuple []))) H') :
    rIxT K (.ref p) (.int (-1)) H fun x H1 => ([] : List V).length ≤ sizeLine ∧ ∀ t, H1 t = none → rT0 true K x (.ref t) (upd H1 t (.tup [])) Q := by
  obtain ⟨x, dl, e1, e2, e3, e4⟩ := last_both hx ne
  obtain ⟨p2, xs2, ds2, rfl, rfl, np2, hp2, hx2⟩ := tup_of e4 (row_tup (all_mem hw e3))
  refine ⟨p, xs, -1, .ref p2, rfl, rfl, SqT.of hp, atI_end e1, sz (by decide), fun t nt => ?_⟩
  have s2 := same_new (o := .tup []) nt
  refine ⟨p2, t, xs2, [], rfl, rfl, SqT.of (s2 _ _ hp2), SqT.of upd_same, rfl, ?_⟩
  have q' := q _ s2
  unfold lastD at q'
  rw [e2] at q'
  cases hx2 with
  | nil => simpa [PyData.eqv, PyData.eqvAll] using q'
  | cons _ _ => simpa [PyData.eqv, PyData.eqvAll] using q'
theorem scPoly : FnScope ["value", "row"] ["value"] (defScope sPoly) := ⟨rfl, rfl, rfl, by decide +kernel, rfl, by decide +kernel, by decide +kernel⟩
theorem ok_poly (D : Def K mg "is_poly" sPoly ["value"]) (nb : Nb mg) (c1 : Cal P w K mg base "is_row" 2 ["value"] (spB rowB)) : Cal P w K mg base "is_poly" 3 ["value"] (spB polyB) := by
  refine D.ok scPoly (fun vs H Q E h => ?_) (fun f cdv A out s H vs Q E hr h => ?_)
  · obtain ⟨a, v, d, m, rfl, _⟩ := h; rfl
  obtain ⟨a, v, d, m, rfl, hd, hs, q⟩ := h
  refine ⟨_, pss_cons (ps_if (PW.pt (pw_or (pt_not (pt_val (pe_callB (id := "isinstance") (r := rIsi K) call_isi (by rfl) nb.isi (by decide +kernel) (pa_cons (pv 0) (pa_cons (pe_bltn (v := .ty "tuple") (by rfl) nb.tup (by decide +kernel) rfl) pa_nil)))))
      (pw_or1 (pt_not (pt_val (pe_callB (cr_all rfl) (by rfl) nb.all (by decide +kernel) (pa_cons
        (pe_lc (own := [("row", 1)]) (g := gName 1) (tt := tYes) rfl scPoly.nd (pi_tup (pv 0)) (blkOk_by (N := ["value", "row"]) (sc := defScope sPoly) (by decide +kernel))
          (fun _ _ _ _ _ => pg_name (i := 1) scPoly.nd rfl (Or.inl rfl)) (fun _ _ _ _ _ => pts_nil) (fun _ _ _ _ _ => pe_cal c1 hr (Nat.le_refl 2) (by rfl) (pa_cons (pv 1) pa_nil))) pa_nil)))))))
      (pss_one (ps_ret pe_bl)) pss_nil)
    (pss_one (ps_ret (pe_or (pe_notT (pv 0)) (pe_one (pe_cmpR (op_neT0 hr.units) (pe_ix ix_tup (pv 0) (pe_un un_neg pe_int) (fun _ _ => rfl)) (pe_tup pa_nil) (nomark _)))))), ?_⟩
  walk_at "rd"
  refine ⟨v, rfl, isi hd (isi_tup d) ⟨isTupD d, rfl, ?_⟩⟩
  cases ht : isTupD d with
  | false =>
    have q' := q H (Same.refl H)
    rw [(not_tup ht).2] at q'
    exact iteT (iteT q')
  | true =>
    obtain ⟨p, xs, ds, rfl, rfl, np, hp, hx⟩ := tup_of hd ht
    have hn : xs.length < 100000 := by rw [hx.len]; have := hs.len; omega
    refine iteF (lc_mapT (fun d => V.bl (rowB d)) rfl hp hx hn (wipe1 _ 1) (fun x d H1 hm s1 dx R k => ?_) fun L H1 s1 nL hL => ?_)
    · exact ⟨x, rfl, a, x, d, _, rfl, dx, hs.mem hm, k⟩
    refine ⟨L, ds.map rowB, rfl, SqL.of (by rw [List.map_map]; exact hL), _, rfl, ?_⟩
    have q' : ∀ H', Same H H' → Q (.bl ((ds.map rowB).all id && lastD ds (.tuple []))) H' := q
    cases hw : (ds.map rowB).all id with
    | false => rw [hw] at q'; exact iteT (q' _ s1)
    | true =>
      rw [hw] at q'
      refine iteF ⟨.ref p, rfl, _, .inr (.inl ⟨xs, SqT.of (s1 _ _ hp), rfl⟩), _, rfl, ?_⟩
      rw [empty_iff hx, Bool.not_not]
      cases hds : ds with
      | nil => subst hds; exact iteT (q' _ s1)
      | cons d0 dr =>
        have ne : ds ≠ [] := by rw [hds]; simp
        exact iteF ⟨.ref p, rfl, 1, rfl, end_row (hx.same s1) (s1 _ _ hp) ne hw fun H' s2 => q' _ (s1.trans s2)⟩
theorem scIsPoly : FnScope ["_law_thing", "_law_each"] ["_law_thing"] (defScope sIsPoly) := ⟨rfl, rfl, rfl, by decide +kernel, rfl, by decide +kernel, by decide +kernel⟩
theorem ok_isPoly (D : Def K mg "_law_is_poly" sIsPoly ["_law_thing"]) (nb : Nb mg) (c1 : Cal P w K mg base "_law_is_row" 2 ["_law_thing"] (spB rowB)) : Cal P w K mg base "_law_is_poly" 3 ["_law_thing"] (spB polyB) := by
  refine D.ok scIsPoly (fun vs H Q E h => ?_) (fun f cdv A out s H vs Q E hr h => ?_)
  · obtain ⟨a, v, d, m, rfl, _⟩ := h; rfl
  obtain ⟨a, v, d, m, rfl, hd, hs, q⟩ := h
  refine ⟨_, pss_cons (ps_if (PW.pt (pw_or (pt_not (pt_val (pe_callB (id := "isinstance") (r := rIsi K) call_isi (by rfl) nb.isi (by decide +kernel) (pa_cons (pv 0) (pa_cons (pe_bltn (v := .ty "tuple") (by rfl) nb.tup (by decide +kernel) rfl) pa_nil)))))
      (pw_or1 (pt_not (pt_val (pe_callB (cr_all rfl) (by rfl) nb.all (by decide +kernel) (pa_cons
        (pe_lc (own := [("_law_each", 1)]) (g := gName 1) (tt := tYes) rfl scIsPoly.nd (pi_tup (pv 0)) (blkOk_by (N := ["_law_thing", "_law_each"]) (sc := defScope sIsPoly) (by decide +kernel))
          (fun _ _ _ _ _ => pg_name (i := 1) scIsPoly.nd rfl (Or.inl rfl)) (fun _ _ _ _ _ => pts_nil) (fun _ _ _ _ _ => pe_cal c1 hr (Nat.le_refl 2) (by rfl) (pa_cons (pv 1) pa_nil))) pa_nil)))))))
      (pss_one (ps_ret pe_bl)) pss_nil)
    (pss_one (ps_ret (pe_or (pe_cmpR (op_eqT0 hr.units) (pv 0) (pe_tup pa_nil) (nomark _)) (pe_one (pe_cmpR (op_neT0 hr.units) (pe_ix ix_tup (pv 0) (pe_un un_neg pe_int) (fun _ _ => rfl)) (pe_tup pa_nil) (nomark _)))))), ?_⟩
  walk_at "rd"
  refine ⟨v, rfl, isi hd (isi_tup d) ⟨isTupD d, rfl, ?_⟩⟩
  cases ht : isTupD d with
  | false =>
    have q' := q H (Same.refl H)
    rw [(not_tup ht).2] at q'
    exact iteT (iteT q')
  | true =>
    obtain ⟨p, xs, ds, rfl, rfl, np, hp, hx⟩ := tup_of hd ht
    have hn : xs.length < 100000 := by rw [hx.len]; have := hs.len; omega
    refine iteF (lc_mapT (fun d => V.bl (rowB d)) rfl hp hx hn (wipe1 _ 1) (fun x d H1 hm s1 dx R k => ?_) fun L H1 s1 nL hL => ?_)
    · exact ⟨x, rfl, a, x, d, _, rfl, dx, hs.mem hm, k⟩
    refine ⟨L, ds.map rowB, rfl, SqL.of (by rw [List.map_map]; exact hL), _, rfl, ?_⟩
    have q' : ∀ H', Same H H' → Q (.bl ((ds.map rowB).all id && lastD ds (.tuple []))) H' := q
    cases hw : (ds.map rowB).all id with
    | false => rw [hw] at q'; exact iteT (q' _ s1)
    | true =>
      rw [hw] at q'
      refine iteF ⟨.ref p, rfl, sz (by decide), fun t nt => ?_⟩
      have s2 := s1.trans (same_new (o := .tup []) nt)
      refine ⟨p, t, xs, [], rfl, rfl, SqT.of (s2 _ _ hp), SqT.of upd_same, rfl, xs.isEmpty, rfl, ?_⟩
      rw [empty_iff hx]
      cases hds : ds with
      | nil => subst hds; exact iteT (q' _ s2)
      | cons d0 dr =>
        have ne : ds ≠ [] := by rw [hds]; simp
        exact iteF ⟨.ref p, rfl, 1, rfl, end_row (hx.same s2) (s2 _ _ hp) ne hw fun H' s3 => q' _ (s2.trans s3)⟩
end
end K21

set_option Elab.async false
set_option linter.all false
set_option maxRecDepth 100000
set_option maxHeartbeats 4000000
local macro_rules | `(tactic| walk_at "rd") => `(tactic| dsimp only [L2.tSeq, L2.tNext, L2.tRet, L2.tRetN, L2.tAsg, L2.gName, L2.tIfS, L2.tDrop, L2.tCons, L2.tNil, L2.tC, L2.tVar, L2.tCB, L2.tAndV, L2.tOrV, L2.tNotV, L2.tB, L2.tTest, L2.tOp, L2.tUn, L2.tNot, L2.tAnd, L2.tOr, L2.tIf, L2.tCall, L2.tTup, L2.tLst, L2.tNotT, L2.tYes, L2.gTup, L2.gCons, L2.gNil, L2.gSub])
namespace K21
open PySem PySem.Spec PyProof.Rows L2 Tw
/-- an int from 0 on below n; the well is turned -/
def spDraw : Sp := fun vs H Q _ => ∃ a n, vs = [.ref a, .int n] ∧ We a H ∧ 0 < n ∧ n < 1073741824 ∧ ∀ d H', 0 ≤ d → d < n → Kp a H H' → We a H' → Q (.int d) H'
/-- one of a tuple's items -/
def spPick : Sp := fun vs H Q _ => ∃ a p xs, vs = [.ref a, .ref p] ∧ We a H ∧ p ≠ a ∧ H p = some (.tup xs) ∧ xs ≠ [] ∧ xs.length < 1000 ∧ ∀ (i : Nat) x H', xs[i]? = some x → Kp a H H' → We a H' → Q x H'
theorem kp_well {a : Addr} {H H' : Hp} {o : HO} (h : Kp a H H') : Kp a H (upd H' a o) := fun b u n e => by
  rw [upd_ne n]; exact h b u n e
section
variable {P : Program} {w : World} {K : PySem.W.Frag} {mg : Str → Option Value} {base : Heap}
theorem scDraw : FnScope ["_law_well_here", "_law_many", "_law_figure", "_law_seed"] ["_law_well_here", "_law_many"] (defScope sDraw) := ⟨rfl, rfl, rfl, by decide +kernel, rfl, by decide +kernel, by decide +kernel⟩
theorem ok_draw (D : Def K mg "_law_draw" sDraw ["_law_well_here", "_law_many"]) (nb : Nb mg) : Cal P w K mg base "_law_draw" 1 ["_law_well_here", "_law_many"] spDraw := by
  refine D.ok scDraw (fun vs H Q E h => ?_) (fun f cdv A out s H vs Q E hr h => ?_)
  · obtain ⟨a, n, rfl, _⟩ := h; rfl
  obtain ⟨a, n, rfl, ⟨x, y, z, hw⟩, n0, n1, q⟩ := h
  refine ⟨_, pss_cons (ps_if (pt_cmpR op_gt (pe_ix ix_list (pv 0) pe_int (fun _ _ => rfl)) pe_int (nomark _))
      (pss_cons (ps_asg (pe_callB (id := "divmod") call_divmod (by rfl) nb.dvm (by decide +kernel) (pa_cons (pe_ix ix_list (pv 0) pe_int (fun _ _ => rfl)) (pa_cons (pv 1) pa_nil)))
          (pg_tup rfl (pgs_cons (pg_sub (pv 0) pe_int set_list) (pgs_cons (pg_name (i := 2) scDraw.nd rfl (Or.inl rfl)) pgs_nil))))
        (pss_one (ps_ret (pv 2)))) pss_nil)
    (pss_cons (ps_asg (pe_op op_add (pe_ix ix_list (pv 0) pe_int (fun _ _ => rfl)) pe_int) (pg_sub (pv 0) pe_int set_list))
    (pss_cons (ps_set (i := 3) scDraw.nd rfl (Or.inl rfl) (pe_op op_mod (pe_callTy (T := "int") call_int1 (by rfl) nb.int (by decide +kernel)
        (pa_cons (pe_op op_add (pe_ix ix_list (pv 0) pe_int (fun _ _ => rfl)) (pe_op op_mul pe_int (pe_ix ix_list (pv 0) pe_int (fun _ _ => rfl)))) pa_nil)) pe_int))
    (pss_cons (ps_asg (pe_op op_mod (pe_callTy (T := "int") call_int1 (by rfl) nb.int (by decide +kernel)
        (pa_cons (pe_op op_add (pe_op op_mul (pv 3) (pe_op op_add (pe_op op_mod (pe_callTy (T := "int") call_int1 (by rfl) nb.int (by decide +kernel) (pa_cons (pv 3) pa_nil)) pe_int) pe_int))
          (pe_op op_mul pe_int (pe_ix ix_list (pv 0) pe_int (fun _ _ => rfl)))) pa_nil)) pe_int) (pg_sub (pv 0) pe_int set_list))
    (pss_one (ps_ret (pe_op op_mod (pe_callTy (T := "int") call_int1 (by rfl) nb.int (by decide +kernel) (pa_cons (pe_op op_fdiv (pe_ix ix_list (pv 0) pe_int (fun _ _ => rfl)) pe_int) pa_nil)) (pv 1))))))), ?_⟩
  walk_at "rd"
  refine ⟨.ref a, rfl, a, _, 0, .int x, rfl, rfl, SqL.of hw, rfl, x, 0, rfl, rfl, _, rfl, ite2 (fun c => ?_) (fun c => ?_)⟩
  · refine ⟨.ref a, rfl, a, _, 0, .int x, rfl, rfl, SqL.of hw, rfl, .int n, rfl, x, n, rfl, ⟨n0, n1⟩, fun t nt => ?_⟩
    have ta : t ≠ a := (show We a H from ⟨x, y, z, hw⟩).ne nt
    have h1 : upd H t (.tup [.int (x / n), .int (x % n)]) a = some (.lst [.int x, .int y, .int z]) := by rw [upd_ne ta.symm]; exact hw
    refine ⟨t, _, rfl, SqT.of upd_same, rfl, .int (x / n), _, rfl, .ref a, rfl, a, _, 0, 0, rfl, rfl, h1, rfl, .int (x % n), _, rfl, ⟨rfl, .int (x % n), rfl, ?_⟩⟩
    refine q _ _ (Int.emod_nonneg _ (by omega)) (Int.emod_lt_of_pos _ n0) (kp_well (kp_new nt)) ⟨x / n, y, z, upd_same⟩
  · refine ⟨.ref a, rfl, a, _, 2, .int z, rfl, rfl, SqL.of hw, rfl, z, 1, rfl, rfl, .ref a, rfl, a, _, 2, 2, rfl, rfl, hw, rfl, ?_⟩
    generalize hH1 : upd H a _ = H1
    have w1 : H1 a = some (.lst [.int x, .int y, .int (z + 1)]) := by rw [← hH1]; exact upd_same
    have k1 : Kp a H H1 := by rw [← hH1]; exact kp_well (Kp.refl a H)
    refine ⟨.ref a, rfl, a, _, 1, .int y, rfl, rfl, SqL.of w1, rfl, .ref a, rfl, a, _, 2, .int (z + 1), rfl, rfl, SqL.of w1, rfl, _, _, rfl, rfl, .inl ⟨by decide, by decide⟩, _, _, rfl, rfl, .inl ⟨_, rfl, _, _, rfl, rfl, (by show (0 : Int) < _; decide), ?_⟩⟩
    walk_at "rd"
    generalize hs : (_ : Int) % 2147483563 = sd
    have s0 : 0 ≤ sd := by rw [← hs]; exact Int.emod_nonneg _ (by decide)
    have s1 : sd < 2147483563 := by rw [← hs]; exact Int.emod_lt_of_pos _ (by decide)
    refine ⟨.int sd, rfl, .int sd, rfl, .inl ⟨sd, rfl, _, _, rfl, rfl, (by show (0 : Int) < _; decide), _, _, rfl, rfl, _, _, rfl, rfl, .inl ⟨by omega, by omega⟩, .ref a, rfl, a, _, 2, .int (z + 1), rfl, rfl, SqL.of w1, rfl, _, _, rfl, rfl, .inl ⟨by decide, by decide⟩, _, _, rfl, rfl, .inl ⟨_, rfl, _, _, rfl, rfl, (by show (0 : Int) < _; decide), ?_⟩⟩⟩
    walk_at "rd"
    refine ⟨.ref a, rfl, a, _, 1, 1, rfl, rfl, w1, rfl, ?_⟩
    generalize hy : (_ : Int) % 2147483563 = y2
    generalize hH2 : upd H1 a _ = H2
    have w2 : H2 a = some (.lst [.int x, .int y2, .int (z + 1)]) := by rw [← hH2]; exact upd_same
    have k2 : Kp a H H2 := by rw [← hH2]; exact kp_well k1
    refine ⟨.ref a, rfl, a, _, 1, .int y2, rfl, rfl, SqL.of w2, rfl, _, _, rfl, rfl, ⟨by decide, by decide⟩, .inl ⟨_, rfl, .int n, rfl, _, _, rfl, rfl, n0, ?_⟩⟩
    exact q _ _ (Int.emod_nonneg _ (by omega)) (Int.emod_lt_of_pos _ n0) k2 ⟨x, y2, z + 1, w2⟩

theorem scPick : FnScope ["_law_well_here", "_law_some"] ["_law_well_here", "_law_some"] (defScope sPick) := ⟨rfl, rfl, rfl, by decide +kernel, rfl, by decide +kernel, by decide +kernel⟩
theorem ok_pick (D : Def K mg "_law_pick" sPick ["_law_well_here", "_law_some"]) (nb : Nb mg) (c1 : Cal P w K mg base "_law_draw" 1 ["_law_well_here", "_law_many"] spDraw) : Cal P w K mg base "_law_pick" 2 ["_law_well_here", "_law_some"] spPick := by
  refine D.ok scPick (fun vs H Q E h => ?_) (fun f cdv A out s H vs Q E hr h => ?_)
  · obtain ⟨a, p, xs, rfl, _⟩ := h; rfl
  obtain ⟨a, p, xs, rfl, hw, np, hp, ne, hl, q⟩ := h
  refine ⟨_, pss_one (ps_ret (pe_ix ix_tup (pv 1) (pe_cal c1 hr (Nat.le_refl 1) (by rfl) (pa_cons (pv 0) (pa_cons (pe_callB (id := "len") call_len_seq (by rfl) nb.len PySem.boot_len (pa_cons (pv 1) pa_nil)) pa_nil))) (fun _ _ => rfl))), ?_⟩
  walk_at "rd"
  have l0 : 0 < xs.length := List.length_pos_iff.mpr ne
  refine ⟨.ref p, rfl, .ref a, rfl, .ref p, rfl, p, xs, rfl, .inr (SqT.of hp), a, _, rfl, hw, by omega, by omega, fun d H1 d0 d1 k1 w1 => ?_⟩
  obtain ⟨m, rfl⟩ := Int.eq_ofNat_of_zero_le d0
  have hm : m < xs.length := by omega
  exact ⟨p, xs, _, xs[m], rfl, rfl, SqT.of (k1 _ _ np hp), atI_nat (List.getElem?_eq_getElem hm), q m _ H1 (List.getElem?_eq_getElem hm) k1 w1⟩
end
end K21

set_option Elab.async false
set_option linter.all false
set_option maxRecDepth 100000
set_option maxHeartbeats 4000000
local macro_rules | `(tactic| walk_at "rd") => `(tactic| dsimp only [L2.tSeq, L2.tNext, L2.tRet, L2.tRetN, L2.tAsg, L2.gName, L2.tIfS, L2.tDrop, L2.tCons, L2.tNil, L2.tC, L2.tVar, L2.tCB, L2.tAndV, L2.tOrV, L2.tNotV, L2.tB, L2.tTest, L2.tOp, L2.tUn, L2.tNot, L2.tAnd, L2.tOr, L2.tIf, L2.tCall, L2.tTup, L2.tLst, L2.tNotT, L2.tYes, L2.gTup, L2.gCons, L2.gNil, L2.gSub, L2.tBM0, L2.tBM, L2.tWhile, L2.tFor, L2.iRng1])
namespace K21
open PySem PySem.Spec PyProof.Rows L2 Tw
/-- data that may be compared, at most n deep -/
def Nice (n : Nat) (d : PyData) : Prop := d.canLay0 = true ∧ d.depth ≤ n
theorem canAll {ds : List PyData} (h : ∀ d ∈ ds, d.canLay0 = true) : PyData.canLayAll0 ds = true := by
  induction ds with
  | nil => simp [PyData.canLayAll0]
  | cons d ds ih => simp only [PyData.canLayAll0, h d (by simp), ih fun e he => h e (by simp [he]), Bool.and_self]
theorem depAll {n : Nat} {ds : List PyData} (h : ∀ d ∈ ds, d.depth ≤ n) : PyData.depthAll ds ≤ n := by
  induction ds with
  | nil => simp [PyData.depthAll]
  | cons d ds ih =>
    simp only [PyData.depthAll]
    exact Nat.max_le.mpr ⟨h d (by simp), ih fun e he => h e (by simp [he])⟩
theorem nice_tup {n : Nat} {ds : List PyData} (h : ∀ d ∈ ds, Nice n d) : Nice (n + 1) (.tuple ds) :=
  ⟨by simp only [PyData.canLay0]; exact canAll fun d hd => (h d hd).1, by simp only [PyData.depth]; exact Nat.succ_le_succ (depAll fun d hd => (h d hd).2)⟩
theorem nice_lst {n : Nat} {ds : List PyData} (h : ∀ d ∈ ds, Nice n d) : Nice (n + 1) (.list ds) :=
  ⟨by simp only [PyData.canLay0]; exact canAll fun d hd => (h d hd).1, by simp only [PyData.depth]; exact Nat.succ_le_succ (depAll fun d hd => (h d hd).2)⟩
theorem nice_int (i : Int) : Nice 0 (.int i) := ⟨by simp [PyData.canLay0], by simp [PyData.depth]⟩
theorem Nice.up {n m : Nat} {d : PyData} (h : Nice n d) (l : n ≤ m) : Nice m d := ⟨h.1, Nat.le_trans h.2 l⟩
theorem Nice.shaped {n : Nat} {d : PyData} (h : Nice n d) (l : n ≤ 64) : SeqAt.shaped d = true := by
  unfold SeqAt.shaped
  rw [h.1, decide_eq_true (Nat.le_trans h.2 l)]; rfl
/-- a first part of the list, as a tuple -/
def spTrim : Sp := fun vs H Q _ => ∃ a p xs ds, vs = [.ref p] ∧ H p = some (.lst xs) ∧ DaAll a H xs ds ∧ (∀ d ∈ ds, Nice 5 d) ∧
  ∀ (k : Nat) q H', k ≤ xs.length → Same H H' → H q = none → H' q = some (.tup (xs.take k)) → Q (.ref q) H'
def spInt : Sp := fun vs H Q _ => ∃ a, vs = [.ref a] ∧ We a H ∧ ∀ i H', Kp a H H' → We a H' → Q (.int i) H'
section
variable {P : Program} {w : World} {K : PySem.W.Frag} {mg : Str → Option Value} {base : Heap}
theorem take_cases {xs : List V} {m : Nat} (h : m ≤ xs.length) : xs.take m = [] ∧ m = 0 ∨ ∃ j y, m = j + 1 ∧ xs[j]? = some y ∧ xs.take m = xs.take j ++ [y] := by
  cases m with
  | zero => exact .inl ⟨rfl, rfl⟩
  | succ j =>
    have hj : j < xs.length := by omega
    refine .inr ⟨j, xs[j], rfl, List.getElem?_eq_getElem hj, ?_⟩
    rw [List.take_add_one, List.getElem?_eq_getElem hj]; rfl
theorem scTrim : FnScope ["_law_some", "_law_made"] ["_law_some"] (defScope sTrim) := ⟨rfl, rfl, rfl, by decide +kernel, rfl, by decide +kernel, by decide +kernel⟩
theorem ok_trim (D : Def K mg "_law_trim" sTrim ["_law_some"]) (nb : Nb mg) : Cal P w K mg base "_law_trim" 1 ["_law_some"] spTrim := by
  refine D.ok scTrim (fun vs H Q E h => ?_) (fun f cdv A out s H vs Q E hr h => ?_)
  · obtain ⟨a, p, xs, ds, rfl, _⟩ := h; rfl
  obtain ⟨a, p, xs, ds, rfl, hp, hd, hn, q⟩ := h
  refine ⟨_, pss_cons (ps_set (i := 1) scTrim.nd rfl (Or.inl rfl) (pe_callTy (T := "list") call_list_of (by rfl) nb.lst (by decide +kernel) (pa_cons (pv 0) pa_nil)))
    (pss_cons (ps_while PassesOwn.never (PW.pt (pw_and (pt_cmpR (op_neD hr.units) (pv 1) (pe_lst pa_nil) (nomark _)) (pw_and1 (PW.pt (pw_or
        (pt_cmpR (op_eqD hr.units) (pe_ix ix_list (pv 1) (pe_un un_neg pe_int) (fun _ _ => rfl)) pe_int (nomark _))
        (pw_or1 (pt_cmpR (op_eqD hr.units) (pe_ix ix_list (pv 1) (pe_un un_neg pe_int) (fun _ _ => rfl)) (pe_tup pa_nil) (nomark _))))))))
      (pss_one (ps_expr (pe_bm0 PySem.F.plainAttrs_list PySem.F.slot_list_pop PySem.F.type_list_pop mt_pop (pv 1)))))
    (pss_one (ps_ret (pe_callTy (T := "tuple") call_tuple_of (by rfl) nb.tup (by decide +kernel) (pa_cons (pv 1) pa_nil))))), ?_⟩
  walk_at "rd"
  refine ⟨.ref p, rfl, p, xs, rfl, .inl (SqL.of hp), fun L nL => ?_⟩
  have go : ∀ (m : Nat) (H' : Hp), m ≤ xs.length → Same H H' → H' L = some (.lst (xs.take m)) → ∀ t, H' t = none → Q (.ref t) (upd H' t (.tup (xs.take m))) := fun m H' hm s1 hL t nt =>
    q m t _ hm (s1.trans (same_new nt)) (s1.free nt) upd_same
  refine ⟨fun m σ H' => m ≤ xs.length ∧ σ = [some (.ref p), some (.ref L)] ∧ Same H H' ∧ H' L = some (.lst (xs.take m)), ⟨xs.length, Nat.le_refl _, rfl, same_new nL, by rw [upd_same, List.take_length]⟩, ?_⟩
  rintro m σ H1 ⟨hm, rfl, s1, hL⟩
  refine ⟨.ref L, rfl, sz (by decide), fun t nt => ?_⟩
  have s2 := same_new (o := .lst []) nt
  have dL : DaAll a H1 (xs.take m) (ds.take m) := (hd.same s1).take m
  have nA : ∀ d ∈ ds.take m, Nice 5 d := fun d h => hn d (List.mem_of_mem_take h)
  refine ⟨.list (ds.take m), .list [], .lst (SqL.of (s2 _ _ hL)) ((dL.same s2).dp (canAll fun d h => (nA d h).1)), .lst (SqL.of upd_same) .nil, (nice_lst nA).shaped (by decide), by decide, _, rfl, ?_⟩
  rcases take_cases hm with ⟨e0, rfl⟩ | ⟨j, y, rfl, ey, et⟩
  · have ed : ds.take 0 = [] := rfl
    rw [ed]
    refine iteF ?_
    refine ⟨.ref L, rfl, L, xs.take 0, rfl, .inl ⟨SqL.of (s2 _ _ hL), fun t2 nt2 => ?_⟩⟩
    exact go 0 _ hm (s1.trans s2) (s2 _ _ hL) t2 nt2
  · obtain ⟨d, e1, e2⟩ := hd.get ey
    have em : ds.take (j + 1) = ds.take j ++ [d] := by rw [List.take_add_one, e1]; rfl
    have ne : (!PyData.eqv (.list (ds.take (j + 1))) (.list [])) = true := by
      rw [em]
      cases ds.take j <;> simp [PyData.eqv, PyData.eqvAll]
    rw [ne]
    have nd : Nice 5 d := hn d (List.mem_of_getElem? e1)
    have at1 : atI (xs.take (j + 1)) (-1) = some y := by rw [et]; exact atI_last _ _
    have pop : ∀ H2 : Hp, Same H1 H2 → ∃ N : L2.St → Hp → Prop, (∀ σ' H', N σ' H' → ∃ m', m' < j + 1 ∧ m' ≤ xs.length ∧ σ' = [some (.ref p), some (.ref L)] ∧ Same H H' ∧ H' L = some (.lst (xs.take m'))) ∧
        ∃ v, [some (V.ref p), some (V.ref L)][1]? = some (some v) ∧ tyV K "list" v H2 ∧ rPop v [] H2 fun _ H3 => N [some (.ref p), some (.ref L)] H3 := fun H2 s3 => by
      refine ⟨fun σ' H' => σ' = [some (.ref p), some (.ref L)] ∧ Same H H' ∧ H' L = some (.lst (xs.take j)), fun σ' H' h => ⟨j, by omega, by omega, h.1, h.2.1, h.2.2⟩, .ref L, rfl, .inl ⟨rfl, _, SqL.of (s3 _ _ hL)⟩, ?_⟩
      refine ⟨L, xs.take (j + 1), y, rfl, rfl, s3 _ _ hL, ?_, rfl, same_upd (s1.trans s3) nL, ?_⟩
      · exact getLast_get (by rw [et]; simp)
      · rw [upd_same, et, List.dropLast_concat]
    refine iteT ⟨.ref L, rfl, 1, rfl, L, xs.take (j + 1), -1, y, rfl, rfl, SqL.of (s2 _ _ hL), at1, d, .int 0, (e2.same (s1.trans s2)).dp nd.1, .int 0, nd.shaped (by decide), by decide, _, rfl, ?_⟩
    cases c1 : PyData.eqv d (.int 0) with
    | true => exact iteT (iteT (pop _ s2))
    | false =>
      refine iteF ⟨.ref L, rfl, 1, rfl, L, xs.take (j + 1), -1, y, rfl, rfl, SqL.of (s2 _ _ hL), at1, sz (by decide), fun t3 nt3 => ?_⟩
      have s3 := s2.trans (same_new (o := .tup []) nt3)
      refine ⟨d, .tuple [], (e2.same (s1.trans s3)).dp nd.1, .tup (SqT.of upd_same) .nil, nd.shaped (by decide), by decide, _, rfl, ?_⟩
      cases c2 : PyData.eqv d (.tuple []) with
      | true => exact iteT (pop _ s3)
      | false =>
        refine iteF ⟨.ref L, rfl, L, xs.take (j + 1), rfl, .inl ⟨SqL.of (s3 _ _ hL), fun t2 nt2 => ?_⟩⟩
        exact go (j + 1) _ hm (s1.trans s3) (s3 _ _ hL) t2 nt2

theorem scNum : FnScope ["_law_well_here"] ["_law_well_here"] (defScope sNum) := ⟨rfl, rfl, rfl, by decide +kernel, rfl, by decide +kernel, by decide +kernel⟩
theorem ok_num (D : Def K mg "_law_number" sNum ["_law_well_here"]) (c1 : Cal P w K mg base "_law_draw" 1 ["_law_well_here", "_law_many"] spDraw) : Cal P w K mg base "_law_number" 2 ["_law_well_here"] spInt := by
  refine D.ok scNum (fun vs H Q E h => ?_) (fun f cdv A out s H vs Q E hr h => ?_)
  · obtain ⟨a, rfl, _⟩ := h; rfl
  obtain ⟨a, rfl, hw, q⟩ := h
  refine ⟨_, pss_cons (ps_if (pt_cmpR op_eq (pe_cal c1 hr (Nat.le_refl 1) (by rfl) (pa_cons (pv 0) (pa_cons pe_int pa_nil))) pe_int (nomark _))
      (pss_one (ps_ret (pe_op op_sub (pe_cal c1 hr (Nat.le_refl 1) (by rfl) (pa_cons (pv 0) (pa_cons (pe_op op_pow pe_int pe_int) pa_nil))) pe_int))) pss_nil)
    (pss_one (ps_ret (pe_op op_sub (pe_cal c1 hr (Nat.le_refl 1) (by rfl) (pa_cons (pv 0) (pa_cons pe_int pa_nil))) pe_int))), ?_⟩
  walk_at "rd"
  refine ⟨.ref a, rfl, a, _, rfl, hw, by decide, by decide, fun d H1 d0 d1 k1 w1 => ?_⟩
  refine ⟨rfl, _, rfl, ite2 (fun c => ?_) (fun c => ?_)⟩
  · refine ⟨.ref a, rfl, 10, 6, rfl, rfl, ⟨by decide, by decide, by decide⟩, a, _, rfl, w1, by decide, by decide, fun d2 H2 e0 e1 k2 w2 => ?_⟩
    exact ⟨d2, _, rfl, rfl, q _ _ (k1.trans k2) w2⟩
  · refine ⟨.ref a, rfl, a, _, rfl, w1, by decide, by decide, fun d2 H2 e0 e1 k2 w2 => ?_⟩
    exact ⟨d2, _, rfl, rfl, q _ _ (k1.trans k2) w2⟩
end
end K21

set_option Elab.async false
set_option linter.all false
set_option maxRecDepth 100000
set_option maxHeartbeats 4000000
local macro_rules | `(tactic| walk_at "rd") => `(tactic| dsimp only [L2.tSeq, L2.tNext, L2.tRet, L2.tRetN, L2.tAsg, L2.gName, L2.tIfS, L2.tDrop, L2.tCons, L2.tNil, L2.tC, L2.tVar, L2.tCB, L2.tAndV, L2.tOrV, L2.tNotV, L2.tB, L2.tTest, L2.tOp, L2.tUn, L2.tNot, L2.tAnd, L2.tOr, L2.tIf, L2.tCall, L2.tTup, L2.tLst, L2.tNotT, L2.tYes, L2.gTup, L2.gCons, L2.gNil, L2.gSub, L2.tBM0, L2.tBM, L2.tWhile, L2.tFor, L2.iRng1])
namespace K21
open PySem PySem.Spec PyProof.Rows L2 Tw
def rowD (ns : List Int) : PyData := .tuple (ns.map PyData.int)
def spRowM : Sp := fun vs H Q _ => ∃ a n, vs = [.ref a, .int n] ∧ We a H ∧ 0 ≤ n ∧ n ≤ 100 ∧ ∀ v ns H', Kp a H H' → We a H' → Da a H' v (rowD ns) → (ns.length : Int) ≤ n → Q v H'
def spPolyM : Sp := fun vs H Q _ => ∃ a n, vs = [.ref a, .int n] ∧ We a H ∧ 0 < n ∧ n ≤ 100 ∧ ∀ v (rs : List (List Int)) H', Kp a H H' → We a H' → Da a H' v (.tuple (rs.map rowD)) → (rs.length : Int) ≤ n → (∀ r ∈ rs, (r.length : Int) ≤ n) → Q v H'
theorem da_ints (a : Addr) (H : Hp) : ∀ ns : List Int, DaAll a H (ns.map V.int) (ns.map PyData.int)
  | [] => .nil
  | n :: ns => .cons (.int n) (da_ints a H ns)
theorem nice_row (ns : List Int) : Nice 1 (rowD ns) := nice_tup fun d hd => by
  obtain ⟨i, _, rfl⟩ := List.mem_map.mp hd
  exact nice_int i
section
variable {P : Program} {w : World} {K : PySem.W.Frag} {mg : Str → Option Value} {base : Heap}
theorem scLRow : FnScope ["_law_well_here", "_law_many", "_law_made", "_law_k"] ["_law_well_here", "_law_many"] (defScope sLRow) := ⟨rfl, rfl, rfl, by decide +kernel, rfl, by decide +kernel, by decide +kernel⟩
theorem ok_lrow (D : Def K mg "_law_row" sLRow ["_law_well_here", "_law_many"]) (nb : Nb mg) (c1 : Cal P w K mg base "_law_draw" 1 ["_law_well_here", "_law_many"] spDraw)
    (c2 : Cal P w K mg base "_law_number" 2 ["_law_well_here"] spInt) (c3 : Cal P w K mg base "_law_trim" 1 ["_law_some"] spTrim) : Cal P w K mg base "_law_row" 3 ["_law_well_here", "_law_many"] spRowM := by
  refine D.ok scLRow (fun vs H Q E h => ?_) (fun f cdv A out s H vs Q E hr h => ?_)
  · obtain ⟨a, n, rfl, _⟩ := h; rfl
  obtain ⟨a, n, rfl, hw, n0, n1, q⟩ := h
  refine ⟨_, pss_cons (ps_set (i := 2) scLRow.nd rfl (Or.inl rfl) (pe_lst pa_nil))
    (pss_cons (ps_for PassesOwn.never rfl (pi_range1 (by rfl) nb.rng (pa_cons (pe_cal c1 hr (by decide) (by rfl) (pa_cons (pv 0) (pa_cons (pe_op op_add (pv 1) pe_int) pa_nil))) pa_nil))
        (pg_name (i := 3) scLRow.nd rfl (Or.inl rfl))
        (pss_one (ps_expr (pe_bm PySem.F.plainAttrs_list PySem.F.slot_list_append PySem.F.type_list_append mt_append (pv 2) (pa_cons (pe_cal c2 hr (by decide) (by rfl) (pa_cons (pv 0) pa_nil)) pa_nil)))))
    (pss_one (ps_ret (pe_cal c3 hr (by decide) (by rfl) (pa_cons (pv 2) pa_nil))))), ?_⟩
  walk_at "rd"
  refine ⟨sz (by decide), fun L nL => ?_⟩
  have La : L ≠ a := hw.ne nL
  have w0 := we_new (o := .lst []) hw nL
  have k0 : Kp a H (upd H L (.lst [])) := kp_new nL
  refine ⟨.ref a, rfl, .int n, rfl, n, 1, rfl, rfl, a, _, rfl, w0, by omega, by omega, fun d H1 d0 d1 k1 w1 => ?_⟩
  refine ⟨d, rfl, by omega, by omega, for_rng (lo := 0) (n := d.toNat) (fun i σ H' => ∃ (x3 : Option V) (ns : List Int), σ = [some (.ref a), some (.int n), some (.ref L), x3] ∧ Kp a H H' ∧ We a H' ∧ H' L = some (.lst (ns.map V.int)) ∧ ns.length = i) ?_ ?_ ?_⟩
  · exact ⟨none, [], rfl, k0.trans k1, w1, k1 _ _ La upd_same, rfl⟩
  · rintro i σ H2 hi ⟨x3, ns, rfl, k2, w2, e2, l2⟩
    walk_at "rd"
    refine ⟨.ref L, rfl, .inl ⟨rfl, _, SqL.of e2⟩, .ref a, rfl, a, rfl, w2, fun j H3 k3 w3 => ⟨L, ns.map V.int, .int j, rfl, rfl, k3 _ _ La e2, ?_, ?_⟩⟩
    · rw [List.length_map]; exact lt_line (by omega)
    · have w4 : We a (upd H3 L (.lst (ns.map V.int ++ [.int j]))) := by obtain ⟨x, y, z, e⟩ := w3; exact ⟨x, y, z, by rw [upd_ne La.symm]; exact e⟩
      exact ⟨some (.int (0 + (i : Int))), ns ++ [j], rfl, kp_upd (k2.trans k3) nL, w4, by rw [upd_same, List.map_append]; rfl, by simp [l2]⟩
  · rintro σ H2 ⟨x3, ns, rfl, k2, w2, e2, l2⟩
    refine ⟨.ref L, rfl, a, L, _, _, rfl, e2, da_ints a H2 ns, fun d hd => ?_, fun k p H3 hk s3 np e3 => ?_⟩
    · obtain ⟨i, _, rfl⟩ := List.mem_map.mp hd
      exact (nice_int i).up (by decide)
    · rw [← List.map_take] at e3
      have pa : p ≠ a := w2.ne np
      refine q _ (ns.take k) H3 (k2.trans (Kp.of s3)) (w2.to s3) (.tup pa e3 (da_ints a H3 _)) ?_
      rw [List.length_take]
      omega

mutual
def pureT : PyData → Bool
  | .list _ => false
  | .dict _ => false
  | .tuple ds => pureA ds
  | _ => true
def pureA : List PyData → Bool
  | [] => true
  | d :: ds => pureT d && pureA ds
end
mutual
/-- tuples alone: kept as tuples are -/
theorem da_tups {a : Addr} {H H' : Hp} (k : ∀ b xs, b ≠ a → H b = some (.tup xs) → H' b = some (.tup xs)) : ∀ {v : V} {d : PyData}, Da a H v d → pureT d = true → Da a H' v d
  | _, _, .non, _ => .non
  | _, _, .bl b, _ => .bl b
  | _, _, .int i, _ => .int i
  | _, _, .str x, _ => .str x
  | _, _, .lst n h t, p => by simp [pureT] at p
  | _, _, .tup n h t, p => .tup n (k _ _ n h) (das_tups k t (by simpa [pureT] using p))
  | _, _, .dct n h, p => by simp [pureT] at p
theorem das_tups {a : Addr} {H H' : Hp} (k : ∀ b xs, b ≠ a → H b = some (.tup xs) → H' b = some (.tup xs)) : ∀ {v : List V} {d : List PyData}, DaAll a H v d → pureA d = true → DaAll a H' v d
  | _, _, .nil, _ => .nil
  | _, _, .cons (d := d) (ds := ds) h t, p => by
    have p' : pureT d = true ∧ pureA ds = true := by simpa [pureA] using p
    exact .cons (da_tups k h p'.1) (das_tups k t p'.2)
end
theorem pure_all {ds : List PyData} (h : ∀ d ∈ ds, pureT d = true) : pureA ds = true := by
  induction ds with
  | nil => rfl
  | cons d ds ih => simp only [pureA, h d (by simp), ih fun e he => h e (by simp [he]), Bool.and_self]
theorem pure_row (ns : List Int) : pureT (rowD ns) = true := by
  unfold rowD
  rw [pureT]
  exact pure_all fun d hd => by
    obtain ⟨i, _, rfl⟩ := List.mem_map.mp hd
    rfl
theorem tups_upd {a L : Addr} {H : Hp} {xs ys : List V} (h : H L = some (.lst xs)) : ∀ b zs, b ≠ a → H b = some (.tup zs) → upd H L (.lst ys) b = some (.tup zs) := fun b zs _ e => by
  rw [upd_ne (fun z => by rw [z, h] at e; cases e)]; exact e
theorem scLPoly : FnScope ["_law_well_here", "_law_many", "_law_made", "_law_k"] ["_law_well_here", "_law_many"] (defScope sLPoly) := ⟨rfl, rfl, rfl, by decide +kernel, rfl, by decide +kernel, by decide +kernel⟩
theorem ok_lpoly (D : Def K mg "_law_poly" sLPoly ["_law_well_here", "_law_many"]) (nb : Nb mg) (c1 : Cal P w K mg base "_law_draw" 1 ["_law_well_here", "_law_many"] spDraw)
    (c2 : Cal P w K mg base "_law_row" 3 ["_law_well_here", "_law_many"] spRowM) (c3 : Cal P w K mg base "_law_trim" 1 ["_law_some"] spTrim) : Cal P w K mg base "_law_poly" 4 ["_law_well_here", "_law_many"] spPolyM := by
  refine D.ok scLPoly (fun vs H Q E h => ?_) (fun f cdv A out s H vs Q E hr h => ?_)
  · obtain ⟨a, n, rfl, _⟩ := h; rfl
  obtain ⟨a, n, rfl, hw, n0, n1, q⟩ := h
  refine ⟨_, pss_cons (ps_set (i := 2) scLPoly.nd rfl (Or.inl rfl) (pe_lst pa_nil))
    (pss_cons (ps_for PassesOwn.never rfl (pi_range1 (by rfl) nb.rng (pa_cons (pe_op op_add pe_int (pe_cal c1 hr (by decide) (by rfl) (pa_cons (pv 0) (pa_cons (pv 1) pa_nil)))) pa_nil))
        (pg_name (i := 3) scLPoly.nd rfl (Or.inl rfl))
        (pss_one (ps_expr (pe_bm PySem.F.plainAttrs_list PySem.F.slot_list_append PySem.F.type_list_append mt_append (pv 2) (pa_cons (pe_cal c2 hr (by decide) (by rfl) (pa_cons (pv 0) (pa_cons (pv 1) pa_nil))) pa_nil)))))
    (pss_one (ps_ret (pe_cal c3 hr (by decide) (by rfl) (pa_cons (pv 2) pa_nil))))), ?_⟩
  walk_at "rd"
  refine ⟨sz (by decide), fun L nL => ?_⟩
  have La : L ≠ a := hw.ne nL
  have w0 := we_new (o := .lst []) hw nL
  have k0 : Kp a H (upd H L (.lst [])) := kp_new nL
  refine ⟨.ref a, rfl, .int n, rfl, a, _, rfl, w0, by omega, by omega, fun d H1 d0 d1 k1 w1 => ?_⟩
  refine ⟨1, d, rfl, rfl, 1 + d, rfl, by omega, by omega, for_rng (lo := 0) (n := (1 + d).toNat) (fun i σ H' => ∃ (x3 : Option V) (xs : List V) (rs : List (List Int)), σ = [some (.ref a), some (.int n), some (.ref L), x3] ∧ Kp a H H' ∧ We a H' ∧ H' L = some (.lst xs) ∧
    DaAll a H' xs (rs.map rowD) ∧ rs.length = i ∧ ∀ r ∈ rs, (r.length : Int) ≤ n) ?_ ?_ ?_⟩
  · exact ⟨none, [], [], rfl, k0.trans k1, w1, k1 _ _ La upd_same, .nil, rfl, fun r hr => by simp at hr⟩
  · rintro i σ H2 hi ⟨x3, xs, rs, rfl, k2, w2, e2, g2, l2, m2⟩
    walk_at "rd"
    refine ⟨.ref L, rfl, .inl ⟨rfl, _, SqL.of e2⟩, .ref a, rfl, .int n, rfl, a, n, rfl, w2, by omega, n1, fun v r H3 k3 w3 dv lr => ⟨L, xs, v, rfl, rfl, k3 _ _ La e2, ?_, ?_⟩⟩
    · have l := g2.len
      rw [List.length_map] at l
      exact lt_line (by omega)
    · have e3 := k3 _ _ La e2
      have w4 : We a (upd H3 L (.lst (xs ++ [v]))) := by obtain ⟨x, y, z, e⟩ := w3; exact ⟨x, y, z, by rw [upd_ne La.symm]; exact e⟩
      have dall : DaAll a H3 (xs ++ [v]) ((rs ++ [r]).map rowD) := by
        rw [List.map_append]; exact (g2.kp k3).append (.cons dv .nil)
      have dnew := das_tups (H' := upd H3 L (.lst (xs ++ [v]))) (tups_upd e3) dall (pure_all fun d hd => by
        obtain ⟨z, _, rfl⟩ := List.mem_map.mp hd
        exact pure_row z)
      refine ⟨some (.int (0 + (i : Int))), xs ++ [v], rs ++ [r], rfl, kp_upd (k2.trans k3) nL, w4, upd_same, dnew, by simp [l2], fun z hz => ?_⟩
      rcases List.mem_append.mp hz with hz | hz
      · exact m2 z hz
      · rw [List.mem_singleton.mp hz]; exact lr
  · rintro σ H2 ⟨x3, xs, rs, rfl, k2, w2, e2, dA, l2, m2⟩
    refine ⟨.ref L, rfl, a, L, xs, _, rfl, e2, dA, fun d hd => ?_, fun k p H3 hk s3 np e3 => ?_⟩
    · obtain ⟨r, _, rfl⟩ := List.mem_map.mp hd
      exact (nice_row r).up (by decide)
    · have pa : p ≠ a := w2.ne np
      refine q _ (rs.take k) H3 (k2.trans (Kp.of s3)) (w2.to s3) (.tup pa e3 ?_) ?_ fun r hr => m2 r (List.mem_of_mem_take hr)
      · rw [List.map_take]; exact (dA.same s3).take k
      · rw [List.length_take]
        omega
end
end K21

set_option Elab.async false
set_option linter.all false
set_option maxRecDepth 100000
set_option maxHeartbeats 8000000
local macro_rules | `(tactic| walk_at "rd") => `(tactic| dsimp only [Evl.tCut, L2.tSeq, L2.tNext, L2.tRet, L2.tRetN, L2.tAsg, L2.gName, L2.tIfS, L2.tDrop, L2.tCons, L2.tNil, L2.tC, L2.tVar, L2.tCB, L2.tAndV, L2.tOrV, L2.tNotV, L2.tB, L2.tTest, L2.tOp, L2.tUn, L2.tNot, L2.tAnd, L2.tOr, L2.tIf, L2.tCall, L2.tTup, L2.tLst, L2.tNotT, L2.tYes, L2.gTup, L2.gCons, L2.gNil, L2.gSub, L2.tBM0, L2.tBM, L2.tWhile, L2.tFor, L2.iRng1, L2.tSl, L2.tNoPart, L2.tPart, Tw.tRevT])
namespace K21
open PySem PySem.Spec PyProof.Rows L2 Tw
def litList (e : Expr) : List PyData := match litOf e with
  | some (.tuple ds) => ds
  | _ => []
def litB (e : Expr) : Bool := match litOf e with
  | some (.tuple ds) => ds.all (smB 4 10) && decide (0 < ds.length) && decide (ds.length < 900)
  | _ => false
theorem lit_eq {e : Expr} (h : litB e = true) : litOf e = some (.tuple (litList e)) ∧ (litList e).all (smB 4 10) = true ∧ 0 < (litList e).length ∧ (litList e).length < 900 := by
  unfold litB at h
  unfold litList
  split at h
  · rename_i ds hd
    rw [Bool.and_eq_true, Bool.and_eq_true] at h
    rw [hd]
    exact ⟨rfl, h.1.1, of_decide_eq_true h.1.2, of_decide_eq_true h.2⟩
  · cases h
def spOdd : Sp := fun vs H Q _ => ∃ a, vs = [.ref a] ∧ We a H ∧ ∀ v d H', Kp a H H' → We a H' → Da a H' v d → Sm 4 10 d → Q v H'
def spBent (N : Nat) : Sp := fun vs H Q _ => ∃ a v d n m, vs = [.ref a, v] ∧ We a H ∧ Da a H v d ∧ Sm n m d ∧ n < N ∧ 10 ≤ m ∧ m ≤ 500 ∧
  ∀ v' d' H', Kp a H H' → We a H' → Da a H' v' d' → Sm (n + 5) (m + 1) d' → Q v' H'
section
variable {P : Program} {w : World} {K : PySem.W.Frag} {mg : Str → Option Value} {base : Heap}
theorem scOdd : FnScope ["_law_well_here"] ["_law_well_here"] (defScope sOdd) := ⟨rfl, rfl, rfl, by decide +kernel, rfl, by decide +kernel, by decide +kernel⟩
theorem ok_odd (D : Def K mg "_law_odd" sOdd ["_law_well_here"]) (c1 : Cal P w K mg base "_law_pick" 2 ["_law_well_here", "_law_some"] spPick) : Cal P w K mg base "_law_odd" 3 ["_law_well_here"] spOdd := by
  refine D.ok scOdd (fun vs H Q E h => ?_) (fun f cdv A out s H vs Q E hr h => ?_)
  · obtain ⟨a, rfl, _⟩ := h; rfl
  obtain ⟨a, rfl, hw, q⟩ := h
  have main : ∀ (e : Expr) (t : TE), litB e = true → t = tCall spPick [] E0 (tCons (tVar 0) (tCons (tLit (.tuple (litList e))) tNil)) → t (start ["_law_well_here"] [.ref a]) H Q := by
    rintro e t hb rfl
    obtain ⟨_, ha, h0, h1⟩ := lit_eq hb
    walk_at "rd"
    refine ⟨.ref a, rfl, a, hw.some, fun v H1 s1 dv => ?_⟩
    obtain ⟨p, xs, rfl, np, hp, hx⟩ := da_tup dv
    have l := hx.len
    refine ⟨a, p, xs, rfl, hw.to s1, np, hp, fun z => by rw [z] at l; simp at l; omega, by omega, fun i x H2 hi k2 w2 => ?_⟩
    obtain ⟨d, e1, e2⟩ := hx.get hi
    exact q x d H2 ((Kp.of s1).trans k2) w2 (e2.kp k2) (sm_of (List.all_eq_true.mp ha d (List.mem_of_getElem? e1)))
  have hb : litB (match defBody sOdd with | [.Return (some (.Call _ [_, e] _ _)) _] => e | _ => .Constant .none 0 ⟨0, 0, 0, 0⟩) = true := by decide +kernel
  exact ⟨_, pss_one (ps_ret (pe_cal c1 hr (by decide) (by rfl) (pa_cons (pv 0) (pa_cons (pe_lit _ (lit_eq hb).1) pa_nil)))), main _ _ hb rfl⟩
end
end K21

set_option Elab.async false
set_option linter.all false
set_option maxRecDepth 100000
set_option maxHeartbeats 8000000
local macro_rules | `(tactic| walk_at "rd") => `(tactic| dsimp only [Evl.tCut, L2.tSeq, L2.tNext, L2.tRet, L2.tRetN, L2.tAsg, L2.gName, L2.tIfS, L2.tDrop, L2.tCons, L2.tNil, L2.tC, L2.tVar, L2.tCB, L2.tAndV, L2.tOrV, L2.tNotV, L2.tB, L2.tTest, L2.tOp, L2.tUn, L2.tNot, L2.tAnd, L2.tOr, L2.tIf, L2.tCall, L2.tTup, L2.tLst, L2.tNotT, L2.tYes, L2.gTup, L2.gCons, L2.gNil, L2.gSub, L2.tBM0, L2.tBM, L2.tWhile, L2.tFor, L2.iRng1, L2.tSl, L2.tNoPart, L2.tPart, Tw.tRevT])
namespace K21
open PySem PySem.Spec PyProof.Rows L2 Tw
section
variable {P : Program} {w : World} {K : PySem.W.Frag} {mg : Str → Option Value} {base : Heap}
theorem scBent : FnScope ["_law_well_here", "_law_thing", "_law_spot", "_law_kind", "_law_some"] ["_law_well_here", "_law_thing"] (defScope sBent) := ⟨rfl, rfl, rfl, by decide +kernel, rfl, by decide +kernel, by decide +kernel⟩
theorem isT_dict {d : PyData} : isTupD d = true → ∃ ds, d = .tuple ds := fun h => by
  cases d <;> first | exact ⟨_, rfl⟩ | cases h
theorem bent_step {N : Nat} (D : Def K mg "_law_bent" sBent ["_law_well_here", "_law_thing"]) (nb : Nb mg) (c1 : Cal P w K mg base "_law_draw" 1 ["_law_well_here", "_law_many"] spDraw)
    (c2 : Cal P w K mg base "_law_odd" 3 ["_law_well_here"] spOdd) (c3 : Cal P w K mg base "_law_bent" (N + 3) ["_law_well_here", "_law_thing"] (spBent N)) : Cal P w K mg base "_law_bent" (N + 4) ["_law_well_here", "_law_thing"] (spBent (N + 1)) := by
  refine D.ok scBent (fun vs H Q E h => ?_) (fun f cdv A out s H vs Q E hr h => ?_)
  · obtain ⟨a, v, d, n, m, rfl, _⟩ := h; rfl
  obtain ⟨a, v, d, n, m, rfl, hw, hd, hs, hN, m0, m1, q⟩ := h
  refine ⟨_, Evl.pss_cut (ps_if (PW.pt (pw_and (pt_val (pe_callB (id := "isinstance") (r := rIsi K) call_isi (by rfl) nb.isi (by decide +kernel) (pa_cons (pv 1) (pa_cons (pe_bltn (v := .ty "tuple") (by rfl) nb.tup (by decide +kernel) rfl) pa_nil))))
        (pw_and (pt_cmpR (op_neT0 hr.units) (pv 1) (pe_tup pa_nil) (nomark _)) (pw_and1 (pt_cmpR op_gt (pe_cal c1 hr (by omega) (by rfl) (pa_cons (pv 0) (pa_cons pe_int pa_nil))) pe_int (nomark _))))))
      (pss_cons (ps_set (i := 2) scBent.nd rfl (Or.inl rfl) (pe_cal c1 hr (by omega) (by rfl) (pa_cons (pv 0) (pa_cons (pe_callB (id := "len") call_len_seq (by rfl) nb.len PySem.boot_len (pa_cons (pv 1) pa_nil)) pa_nil))))
        (pss_one (ps_ret (pe_op op_catA (pe_op op_catA (pe_slice sl_tupA (pv 1) po_none (po_some (pv 2)))
          (pe_tup (pa_cons (pe_cal c3 hr (by omega) (by rfl) (pa_cons (pv 0) (pa_cons (pe_ix ix_tup (pv 1) (pv 2) (fun _ _ => rfl)) pa_nil))) pa_nil)))
          (pe_slice sl_tupA (pv 1) (po_some (pe_op op_add (pv 2) pe_int)) po_none))))) pss_nil)
    (pss_cons (ps_set (i := 3) scBent.nd rfl (Or.inl rfl) (pe_cal c1 hr (by omega) (by rfl) (pa_cons (pv 0) (pa_cons pe_int pa_nil))))
    (pss_cons (ps_if (PW.pt (pw_and (pt_val (pe_callB (id := "isinstance") (r := rIsi K) call_isi (by rfl) nb.isi (by decide +kernel) (pa_cons (pv 1) (pa_cons (pe_bltn (v := .ty "tuple") (by rfl) nb.tup (by decide +kernel) rfl) pa_nil))))
        (pw_and1 (pt_cmpR op_lt (pv 3) pe_int (nomark _)))))
      (pss_cons (ps_set (i := 4) scBent.nd rfl (Or.inl rfl) (pe_tup
          (pa_cons (pe_callTy (T := "list") call_list_of (by rfl) nb.lst (by decide +kernel) (pa_cons (pv 1) pa_nil))
          (pa_cons (pe_slice sl_tupA (pv 1) po_none (po_some (pe_un un_neg pe_int)))
          (pa_cons (pe_op op_catA (pv 1) (pe_slice sl_tupA (pv 1) (po_some (pe_un un_neg pe_int)) po_none))
          (pa_cons (pe_revT (pv 1))
          (pa_cons (pe_slice sl_tupA (pv 1) (po_some pe_int) po_none)
          (pa_cons (pe_op op_catA (pe_tup (pa_cons pe_int pa_nil)) (pv 1))
          (pa_cons (pe_op op_catA (pe_tup (pa_cons (pe_tup pa_nil) pa_nil)) (pv 1)) pa_nil)))))))))
        (pss_one (ps_ret (pe_ix ix_tup (pv 4) (pv 3) (fun _ _ => rfl))))) pss_nil)
    (pss_cons (ps_if (PW.pt (pw_and (pt_val (pe_callB (id := "isinstance") (r := rIsi K) call_isi (by rfl) nb.isi (by decide +kernel) (pa_cons (pv 1) (pa_cons (pe_bltn (v := .ty "int") (by rfl) nb.int (by decide +kernel) rfl) pa_nil))))
        (pw_and1 (pt_cmpR op_lt (pv 3) pe_int (nomark _)))))
      (pss_one (ps_ret (pe_ix ix_tup (pe_tup (pa_cons (pe_op op_addNl (pv 1) pe_int) (pa_cons (pe_op op_subNr pe_int (pv 1)) (pa_cons pe_int (pa_cons (pe_op op_subNl (pv 1) pe_int)
        (pa_cons (pe_cmpR op_eqNl (pv 1) pe_int (nomark _)) (pa_cons (pe_tup (pa_cons (pv 1) pa_nil)) pa_nil))))))) (pv 3) (fun _ _ => rfl)))) pss_nil)
    (pss_one (ps_ret (pe_cal c2 hr (by omega) (by rfl) (pa_cons (pv 0) pa_nil))))))), ?_⟩
  walk_at "rd"
  refine ⟨fun σ' H' => σ' = [some (.ref a), some v, none, none, none] ∧ Kp a H H' ∧ We a H', ⟨v, rfl, isi hd (isi_tup d) ⟨isTupD d, rfl, ?_⟩⟩, ?_⟩
  · -- the first question
    cases ht : isTupD d with
    | false => exact iteF (iteF ⟨rfl, Kp.refl a H, hw⟩)
    | true =>
      obtain ⟨ds, rfl⟩ := isT_dict ht
      obtain ⟨p, xs, rfl, np, hp, hx⟩ := da_tup hd
      refine iteT ⟨.ref p, rfl, sz (by decide), fun t nt => ?_⟩
      have s1 := same_new (o := .tup []) nt
      refine ⟨p, t, xs, [], rfl, rfl, SqT.of (s1 _ _ hp), SqT.of upd_same, rfl, _, rfl, ?_⟩
      rw [if_pos rfl, empty_iff hx]
      cases hds : ds.isEmpty with
      | true => exact iteF (iteF ⟨rfl, Kp.of s1, hw.to s1⟩)
      | false =>
        refine iteT ⟨.ref a, rfl, a, _, rfl, hw.to s1, by decide, by decide, fun r H1 r0 r1 k1 w1 => ?_⟩
        have k1 := (Kp.of s1).trans k1
        refine ⟨r, 0, rfl, rfl, _, rfl, ?_⟩
        refine ite2 (fun c => ?_) (fun c => ⟨rfl, k1, w1⟩)
        have l0 : 0 < ds.length := by cases ds with
          | nil => cases hds
          | cons _ _ => simp
        have lm := hs.len
        have lx := hx.len
        refine ⟨.ref a, rfl, .ref p, rfl, p, xs, rfl, .inr (SqT.of (k1 _ _ np hp)), a, _, rfl, w1, by omega, by omega, fun i H2 i0 i1 k2 w2 => ?_⟩
        obtain ⟨j, rfl⟩ := Int.eq_ofNat_of_zero_le i0
        have hj : j < ds.length := by omega
        have k2 := k1.trans k2
        refine ⟨.ref p, rfl, .int j, rfl, (j : Int), rfl, ?_⟩
        refine sl_da w2.some (hd.kp k2) fun v1 H3 s3 d1 => ?_
        have k3 := k2.trans (Kp.of s3)
        refine ⟨.ref a, rfl, .ref p, rfl, .int j, rfl, ?_⟩
        refine ix_da (hd.kp k3) i0 (by omega) fun x dx hm dxx => ?_
        refine ⟨a, x, dx, n - 1, m, rfl, w2.to s3, dxx, hs.mem hm, by have := hs.dep1; omega, m0, m1, fun v2 d2 H4 k4 w4 e2 t2 => ?_⟩
        have k4' := k3.trans k4
        refine ⟨sz (by simp), fun pH5 nH5 => ?_⟩
        obtain ⟨s5, d3⟩ := newT w4.some (.cons e2 .nil) nH5
        generalize upd _ pH5 _ = H5 at s5 d3 ⊢
        have k5 := k4'.trans (Kp.of s5)
        have lu := cut_upto ds j
        refine cat_da (w4.to s5).some ((d1.kp k4).same s5) d3 (by simp; omega) fun v4 H6 s6 d4 => ?_
        have k6 := k5.trans (Kp.of s6)
        refine ⟨.ref p, rfl, .int j, rfl, j, 1, rfl, rfl, (j : Int) + 1, rfl, ?_⟩
        have ej : ((j : Int) + 1) = ((j + 1 : Nat) : Int) := by omega
        refine sl_da ((w4.to s5).to s6).some (hd.kp k6) fun v5 H7 s7 d5 => ?_
        have lf := cut_from ds (j + 1)
        rw [ej] at d5
        obtain ⟨c5, hc5⟩ : ∃ c, c = Tw.cutD ds (some ((j + 1 : Nat) : Int)) none := ⟨_, rfl⟩
        rw [← hc5] at d5 lf
        refine cat_da (((w4.to s5).to s6).to s7).some (d4.same s7) d5 (by simp; omega) fun v6 H8 s8 d6 => ?_
        refine q v6 _ H8 ((k6.trans (Kp.of s7)).trans (Kp.of s8)) ((((w4.to s5).to s6).to s7).to s8) d6 ?_
        have n1 := hs.dep1
        refine sm_sub hs (by simp; omega) (by omega) (by omega) fun e he => ?_
        rcases List.mem_append.mp he with he | he
        · rcases List.mem_append.mp he with he | he
          · exact .inl (cut_mem he)
          · rw [List.mem_singleton.mp he]; exact .inr (t2.up (by omega) (Nat.le_refl _))
        · rw [hc5] at he; exact .inl (cut_mem he)
  · -- the rest
    rintro σ' H1 ⟨rfl, k1, w1⟩
    have hd1 := hd.kp k1
    refine ⟨.ref a, rfl, a, _, rfl, w1, by decide, by decide, fun r H2 r0 r1 k2 w2 => ?_⟩
    have k2 := k1.trans k2
    have hd2 := hd.kp k2
    have odd : ∀ H3, Kp a H H3 → We a H3 → spOdd ([.ref a] ++ []) H3 Q E0 := fun H3 k3 w3 => ⟨a, rfl, w3, fun v' d' H4 k4 w4 e4 t4 => q v' d' H4 (k3.trans k4) w4 e4 (t4.up (by omega) (by omega))⟩
    refine ⟨v, rfl, isi hd2 (isi_tup d) ⟨isTupD d, rfl, ?_⟩⟩
    cases ht : isTupD d with
    | true =>
      obtain ⟨ds, rfl⟩ := isT_dict ht
      refine iteT ⟨.int r, rfl, r, 7, rfl, rfl, _, rfl, ite2 (fun c => ?_) (fun c => ?_)⟩
      · have c := of_decide_eq_true c
        have lm := hs.len
        have n1 := hs.dep1
        obtain ⟨p, xs, rfl, np, hp, hx⟩ := da_tup hd2
        refine ⟨.ref p, rfl, p, xs, rfl, .inr (SqT.of hp), fun q0 n0 => ?_⟩
        obtain ⟨s3, d0⟩ := newL w2.some hx n0
        generalize upd _ q0 _ = H3 at s3 d0 ⊢
        have w3 := w2.to s3
        have k3 := k2.trans (Kp.of s3)
        refine ⟨.ref p, rfl, 1, rfl, -1, rfl, sl_da w3.some (hd.kp k3) fun v1 H4 s4 d1 => ?_⟩
        have w4 := w3.to s4
        have k4 := k3.trans (Kp.of s4)
        refine ⟨.ref p, rfl, .ref p, rfl, 1, rfl, -1, rfl, sl_da w4.some (hd.kp k4) fun v2a H5 s5 d2a => ?_⟩
        have w5 := w4.to s5
        have k5 := k4.trans (Kp.of s5)
        have l2 : (Tw.cutD ds (some (-1)) none).length ≤ 1 := by
          unfold Tw.cutD
          rw [List.length_take, List.length_drop]
          have e : HT.sIx ds.length 0 (some (-1)) = ((-1 : Int) + (ds.length : Int)).toNat := by unfold HT.sIx; rfl
          rw [e]
          omega
        refine cat_da w5.some (hd.kp k5) d2a (by omega) fun v2 H6 s6 d2 => ?_
        have w6 := w5.to s6
        have k6 := k5.trans (Kp.of s6)
        obtain ⟨r6, ys, er, nr, hr6, hy⟩ := da_tup (hd.kp k6)
        cases er
        refine ⟨.ref p, rfl, p, ys, rfl, SqT.of hr6, fun q3 n3 => ?_⟩
        obtain ⟨s7, d3⟩ := newT w6.some hy.rev n3
        generalize upd _ q3 _ = H7 at s7 d3 ⊢
        have w7 := w6.to s7
        have k7 := k6.trans (Kp.of s7)
        refine ⟨.ref p, rfl, 1, rfl, sl_da w7.some (hd.kp k7) fun v4 H8 s8 d4 => ?_⟩
        have w8 := w7.to s8
        have k8 := k7.trans (Kp.of s8)
        refine ⟨sz (by simp), fun pH9 nH9 => ?_⟩
        obtain ⟨s9, d5a⟩ := newT w8.some (.cons (.int 0) .nil) nH9
        generalize upd _ pH9 _ = H9 at s9 d5a ⊢
        have w9 := w8.to s9
        have k9 := k8.trans (Kp.of s9)
        refine ⟨.ref p, rfl, cat_da w9.some d5a (hd.kp k9) (by simp; omega) fun v5 H10 s10 d5 => ?_⟩
        have w10 := w9.to s10
        have k10 := k9.trans (Kp.of s10)
        refine ⟨sz (by simp), fun pH11 nH11 => ?_⟩
        obtain ⟨s11, d6a⟩ := newT w10.some .nil nH11
        generalize upd _ pH11 _ = H11 at s11 d6a ⊢
        have w11 := w10.to s11
        have k11 := k10.trans (Kp.of s11)
        refine ⟨sz (by simp), fun pH12 nH12 => ?_⟩
        obtain ⟨s12, d6b⟩ := newT w11.some (.cons d6a .nil) nH12
        generalize upd _ pH12 _ = H12 at s12 d6b ⊢
        have w12 := w11.to s12
        have k12 := k11.trans (Kp.of s12)
        refine ⟨.ref p, rfl, cat_da w12.some d6b (hd.kp k12) (by simp; omega) fun v6 H13 s13 d6 => ?_⟩
        have w13 := w12.to s13
        have k13 := k12.trans (Kp.of s13)
        have z12 := s12.trans s13
        have z11 := s11.trans z12
        have z10 := s10.trans (z11)
        have z9 := s9.trans z10
        have z8 := s8.trans z9
        have z7 := s7.trans z8
        have z6 := s6.trans z7
        have z5 := s5.trans z6
        have z4 := s4.trans z5
        refine ⟨sz (by simp), fun pH14 nH14 => ?_⟩
        obtain ⟨s14, dd⟩ := newT w13.some (.cons (d0.same z4) (.cons (d1.same z5) (.cons (d2.same z7) (.cons (d3.same z8) (.cons (d4.same z9) (.cons (d5.same z11) (.cons d6 .nil))))))) nH14
        generalize upd _ pH14 _ = H14 at s14 dd ⊢
        refine ⟨.ref pH14, rfl, .int r, rfl, ix_da dd r0 (by simp; omega) fun x dx hm dxx => ?_⟩
        refine q x dx H14 (k13.trans (Kp.of s14)) (w13.to s14) dxx ?_
        have cut1 := cut_le ds none (some (-1))
        have cut2 := cut_le ds (some 1) none
        simp only [List.mem_cons, List.not_mem_nil, or_false] at hm
        rcases hm with rfl | rfl | rfl | rfl | rfl | rfl | rfl
        · exact sm_subL hs (by omega) (by omega) (by omega) fun e he => .inl he
        · exact sm_sub hs (by omega) (by omega) (by omega) fun e he => .inl (cut_mem he)
        · exact sm_sub hs (by simp; omega) (by omega) (by omega) fun e he => (List.mem_append.mp he).elim .inl fun z => .inl (cut_mem z)
        · exact sm_sub hs (by simp; omega) (by omega) (by omega) fun e he => .inl (List.mem_reverse.mp he)
        · exact sm_sub hs (by omega) (by omega) (by omega) fun e he => .inl (cut_mem he)
        · exact sm_sub hs (by simp; omega) (by omega) (by omega) fun e he => by
            rcases List.mem_append.mp he with z | z
            · rw [List.mem_singleton.mp z]; exact .inr (sm_int _ _ 0)
            · exact .inl z
        · exact sm_sub hs (by simp; omega) (by omega) (by omega) fun e he => by
            rcases List.mem_append.mp he with z | z
            · rw [List.mem_singleton.mp z]; exact .inr ((sm_tup (n := 0) (m := 0) (ds := []) (by simp) (by simp)).up (by omega) (by omega))
            · exact .inl z
      · refine ⟨v, rfl, isi hd2 (isi_int _) ⟨false, rfl, iteF (iteF ⟨.ref a, rfl, odd H2 k2 w2⟩)⟩⟩
    | false =>
      refine iteF (iteF ⟨v, rfl, isi hd2 (isi_int d) ⟨isIntD d, rfl, ?_⟩⟩)
      cases hi : isIntD d with
      | false => exact iteF (iteF ⟨.ref a, rfl, odd H2 k2 w2⟩)
      | true =>
        refine iteT ⟨.int r, rfl, r, 6, rfl, rfl, _, rfl, ite2 (fun c => ?_) (fun c => ⟨.ref a, rfl, odd H2 k2 w2⟩)⟩
        have c := of_decide_eq_true c
        obtain ⟨i, hn⟩ := nu_of hd2 hi
        refine ⟨v, rfl, i, 1, hn, rfl, v, rfl, 0, i, rfl, hn, v, rfl, i, 2, hn, rfl, v, rfl, i, 1, hn, rfl, v, rfl, ?_⟩
        refine ⟨sz (by simp), fun pH3 nH3 => ?_⟩
        obtain ⟨s3, d5⟩ := newT w2.some (.cons hd2 .nil) nH3
        generalize upd _ pH3 _ = H3 at s3 d5 ⊢
        have w3 := w2.to s3
        refine ⟨sz (by simp), fun pH4 nH4 => ?_⟩
        obtain ⟨s4, dd⟩ := newT w3.some (.cons (.int _) (.cons (.int _) (.cons (.int 0) (.cons (.int _) (.cons (.bl _) (.cons d5 .nil)))))) nH4
        generalize upd _ pH4 _ = H4 at s4 dd ⊢
        refine ⟨.int r, rfl, ix_da dd r0 (by simp; omega) fun x dx hm dxx => ?_⟩
        refine q x dx H4 ((k2.trans (Kp.of s3)).trans (Kp.of s4)) (w3.to s4) dxx ?_
        simp only [List.mem_cons, List.not_mem_nil, or_false] at hm
        rcases hm with rfl | rfl | rfl | rfl | rfl | rfl
        · exact sm_int _ _ _
        · exact sm_int _ _ _
        · exact sm_int _ _ _
        · exact sm_int _ _ _
        · exact sm_bl _ _ _
        · exact (sm_tup (n := n) (m := m) (by simp; omega) fun e he => by rw [List.mem_singleton.mp he]; exact hs).up (by omega) (by omega)
end
end K21

set_option Elab.async false
set_option linter.all false
set_option maxRecDepth 100000
set_option maxHeartbeats 8000000
local macro_rules | `(tactic| walk_at "rd") => `(tactic| dsimp only [Evl.tCut, L2.tSeq, L2.tNext, L2.tRet, L2.tRetN, L2.tAsg, L2.gName, L2.tIfS, L2.tDrop, L2.tCons, L2.tNil, L2.tC, L2.tVar, L2.tCB, L2.tAndV, L2.tOrV, L2.tNotV, L2.tB, L2.tTest, L2.tOp, L2.tUn, L2.tNot, L2.tAnd, L2.tOr, L2.tIf, L2.tCall, L2.tTup, L2.tLst, L2.tNotT, L2.tYes, L2.gTup, L2.gCons, L2.gNil, L2.gSub, L2.tBM0, L2.tBM, L2.tWhile, L2.tFor, L2.iRng1, L2.tSl, L2.tNoPart, L2.tPart, Tw.tRevT])
namespace K21
open PySem PySem.Spec PyProof.Rows L2 Tw
section
variable {P : Program} {w : World} {K : PySem.W.Frag} {mg : Str → Option Value} {base : Heap}
theorem bent_all (D : Def K mg "_law_bent" sBent ["_law_well_here", "_law_thing"]) (nb : Nb mg) (c1 : Cal P w K mg base "_law_draw" 1 ["_law_well_here", "_law_many"] spDraw)
    (c2 : Cal P w K mg base "_law_odd" 3 ["_law_well_here"] spOdd) : ∀ N : Nat, Cal P w K mg base "_law_bent" (N + 3) ["_law_well_here", "_law_thing"] (spBent N)
  | 0 => by
    have no : ∀ vs H Q E, ¬ spBent 0 vs H Q E := fun vs H Q E h => by
      obtain ⟨a, v, d, n, m, _, _, _, _, h1, _⟩ := h
      omega
    obtain ⟨f, fd, F, m, b⟩ := D
    exact ⟨f, fd, ⟨fun vs H Q E h => absurd h (no vs H Q E), fun A out s H g us vs Q E _ _ _ _ h => absurd h (no vs H Q E)⟩, m, F.kp, b, fdAt F⟩
  | N + 1 => bent_step D nb c1 c2 (bent_all D nb c1 c2 N)

def spRight : Sp := fun vs H Q _ => ∃ a, vs = [.ref a] ∧ We a H ∧ ∀ H', Kp a H H' → Q (.bl true) H'
theorem row_sm (ns : List Int) {n : Nat} (h : ns.length ≤ n) : Sm 1 n (rowD ns) := sm_tup (n := 0) (by simpa using h) fun d hd => by
  obtain ⟨i, _, rfl⟩ := List.mem_map.mp hd
  exact sm_int _ _ i
theorem shaped_bools (bs : List Bool) : SeqAt.shaped (.list (bs.map PyData.bool)) = true := by
  refine Nice.shaped (n := 1) (nice_lst fun d hd => ?_) (by decide)
  obtain ⟨b, _, rfl⟩ := List.mem_map.mp hd
  exact ⟨by simp [PyData.canLay0], by simp [PyData.depth]⟩
theorem showable_bools (bs : List Bool) : (PyData.list (bs.map PyData.bool)).showable = true := by
  simp only [PyData.showable]
  induction bs with
  | nil => simp [PyData.showableAll]
  | cons b bs ih => simp [PyData.showableAll, PyData.showable, ih]
theorem short_bools (bs : List Bool) (h : bs.length ≤ 1000) : (PyData.list (bs.map PyData.bool)).shown.length ≤ sizeLine := by
  refine PyData.shown_fits (B := 8) (by decide) (by decide) ?_ ?_
  · simp only [PyData.leavesShort]
    induction bs with
    | nil => simp [PyData.leavesShortAll]
    | cons b bs ih =>
      have := ih (by simp at h; omega)
      cases b <;> simp [PyData.leavesShortAll, PyData.leavesShort, this]
  · simp only [PyData.weight]
    have : ∀ bs : List Bool, PyData.weightAll (bs.map PyData.bool) = bs.length := fun bs => by
      induction bs with
      | nil => simp [PyData.weightAll]
      | cons b bs ih => simp [PyData.weightAll, PyData.weight, ih]; omega
    rw [this]
    exact Nat.le_trans h (by decide)
theorem dp_bools {H : Hp} {p : Addr} {bs : List Bool} (h : H p = some (.lst (bs.map V.bl))) : Dp K H (.ref p) (.list (bs.map PyData.bool)) := by
  refine .lst (SqL.of h) ?_
  clear h
  induction bs with
  | nil => exact .nil
  | cons b bs ih => exact .cons (.bl b) ih
theorem scRight : FnScope ["_law_well_here", "_law_one", "_law_two", "_law_some", "_law_told", "_law_due", "_law_each"] ["_law_well_here"] (defScope sRight) := ⟨rfl, rfl, rfl, by decide +kernel, rfl, by decide +kernel, by decide +kernel⟩
theorem ok_right (D : Def K mg "_law_right" sRight ["_law_well_here"]) (nb : Nb mg) (DP : Def K mg "is_poly" sPoly ["value"]) (c0 : Cal P w K mg base "is_poly" 3 ["value"] (spB polyB)) (c1 : Cal P w K mg base "_law_draw" 1 ["_law_well_here", "_law_many"] spDraw)
    (c2 : Cal P w K mg base "_law_odd" 3 ["_law_well_here"] spOdd) (c3 : Cal P w K mg base "_law_bent" 13 ["_law_well_here", "_law_thing"] (spBent 10)) (c4 : Cal P w K mg base "_law_poly" 4 ["_law_well_here", "_law_many"] spPolyM)
    (c5 : Cal P w K mg base "_law_is_poly" 3 ["_law_thing"] (spB polyB)) : CalG P w K mg base "_law_right" 14 ["_law_well_here"] spRight := by
  refine D.okG scRight (fun vs H Q E h => ?_) (fun f cdv A out s H vs Q E hq hr h => ?_)
  · obtain ⟨a, rfl, _⟩ := h; rfl
  obtain ⟨a, rfl, hw, q⟩ := h
  have hu : (A.deeper (envOfC "_law_right" (defScope sRight) s.heap.objs.size f cdv)).units + 70 < cLine := by have := hr.un; omega
  refine ⟨_, pss_cons (ps_set (i := 1) scRight.nd rfl (Or.inl rfl) (pe_cal c4 hr (by decide) (by rfl) (pa_cons (pv 0) (pa_cons (pe_op op_add pe_int (pe_cal c1 hr (by decide) (by rfl) (pa_cons (pv 0) (pa_cons pe_int pa_nil)))) pa_nil))))
    (pss_cons (ps_set (i := 2) scRight.nd rfl (Or.inl rfl) (pe_cal c3 hr (by decide) (by rfl) (pa_cons (pv 0) (pa_cons (pv 1) pa_nil))))
    (pss_cons (ps_set (i := 3) scRight.nd rfl (Or.inl rfl) (pe_lst (pa_cons (pv 1) (pa_cons (pv 2) (pa_cons (pe_cal c3 hr (by decide) (by rfl) (pa_cons (pv 0) (pa_cons (pv 2) pa_nil))) (pa_cons (pe_cal c3 hr (by decide) (by rfl) (pa_cons (pv 0) (pa_cons (pv 1) pa_nil)))
        (pa_cons (pe_op op_catA (pv 1) (pe_tup (pa_cons (pe_cal c2 hr (by decide) (by rfl) (pa_cons (pv 0) pa_nil)) pa_nil))) (pa_cons (pe_cal c2 hr (by decide) (by rfl) (pa_cons (pv 0) pa_nil)) (pa_cons (pe_tup (pa_cons (pv 1) pa_nil)) pa_nil)))))))))
    (pss_cons (ps_set (i := 4) scRight.nd rfl (Or.inl rfl) (pe_op op_cat
        (pe_lc (own := [("_law_each", 6)]) (g := gName 6) (tt := tYes) rfl scRight.nd (pi_list (pv 3)) (blkOk_by (N := ["_law_well_here", "_law_one", "_law_two", "_law_some", "_law_told", "_law_due", "_law_each"]) (sc := defScope sRight) (by decide +kernel))
          (fun _ _ _ _ _ => pg_name (i := 6) scRight.nd rfl (Or.inl rfl)) (fun _ _ _ _ _ => pts_nil) (fun _ _ _ _ _ => pe_cal c0 hr (by decide) (by rfl) (pa_cons (pv 6) pa_nil)))
        (pe_lc (own := [("_law_each", 6)]) (g := gName 6) (tt := tYes) rfl scRight.nd (pi_list (pv 3)) (blkOk_by (N := ["_law_well_here", "_law_one", "_law_two", "_law_some", "_law_told", "_law_due", "_law_each"]) (sc := defScope sRight) (by decide +kernel))
          (fun _ _ _ _ _ => pg_name (i := 6) scRight.nd rfl (Or.inl rfl)) (fun _ _ _ _ _ => pts_nil) (fun _ _ _ _ _ => pe_calK (ks := ["value"]) (fun us => us) (fun zs => zs) c0 DP hr (by decide) (by rfl)
            (fun _ _ _ _ _ _ us hl => match us, hl with | [_], _ => rfl) (fun r _ => r) (pk_cons (pv 6) pk_nil) (fun zs H Q h => by obtain ⟨v, e, q⟩ := h; exact ⟨v, e, rfl, q⟩)))))
    (pss_cons (ps_setLc (i := 5) (own := [("_law_each", 6)]) (g := gName 6) (tt := tYes) (by rfl) scRight.nd rfl rfl (sw_true rfl rfl rfl (by decide +kernel)) (pi_list (pv 3)) (blkOk_by (N := ["_law_well_here", "_law_one", "_law_two", "_law_some", "_law_told", "_law_due", "_law_each"]) (sc := defScope sRight) (by decide +kernel))
          (fun _ _ _ _ _ => pg_name (i := 6) scRight.nd rfl (Or.inl rfl)) (fun _ _ _ _ _ => pts_nil) (fun _ _ _ _ _ => pe_cal c5 hr (by decide) (by rfl) (pa_cons (pv 6) pa_nil)))
    (pss_one (ps_ret (pe_cmpR op_eq (pe_callB (id := "repr") (r := rShow K) (call_show hq hu) (by rfl) nb.repr (by decide +kernel) (pa_cons (pv 4) pa_nil))
        (pe_callB (id := "repr") (r := rShow K) (call_show hq hu) (by rfl) nb.repr (by decide +kernel) (pa_cons (pe_op op_cat (pv 5) (pv 5)) pa_nil)) (nomark _)))))))), ?_⟩
  walk_at "rd"
  refine ⟨.ref a, rfl, .ref a, rfl, a, _, rfl, hw, by decide, by decide, fun r H1 r0 r1 k1 w1 => ⟨1, r, rfl, rfl, a, 1 + r, rfl, w1, by omega, by omega, fun v1 rs H2 k2 w2 d1 l1 l2 => ?_⟩⟩
  have k2 := k1.trans k2
  have t1 : Sm 2 20 (.tuple (rs.map rowD)) := sm_tup (by rw [List.length_map]; omega) fun d hd => by
    obtain ⟨z, hz, rfl⟩ := List.mem_map.mp hd
    have := l2 z hz
    exact row_sm z (by omega)
  have lr : (rs.map rowD).length ≤ 20 := t1.len
  generalize hds : rs.map rowD = ds at d1 t1 lr
  refine ⟨.ref a, rfl, v1, rfl, a, v1, _, 2, 20, rfl, w2, d1, t1, by decide, by decide, by decide, fun v2 d2 H3 k3 w3 e2 t2 => ?_⟩
  have k3' := k2.trans k3
  have e1 := d1.kp k3
  refine ⟨v1, rfl, v2, rfl, .ref a, rfl, v2, rfl, a, v2, _, 7, 21, rfl, w3, e2, t2, by decide, by decide, by decide, fun v3 d3 H4 k4 w4 e3 t3 => ?_⟩
  have k4' := k3'.trans k4
  refine ⟨.ref a, rfl, v1, rfl, a, v1, _, 2, 20, rfl, w4, e1.kp k4, t1, by decide, by decide, by decide, fun v4 d4 H5 k5 w5 e4 t4 => ?_⟩
  have k5' := k4'.trans k5
  refine ⟨v1, rfl, .ref a, rfl, a, rfl, w5, fun v5a d5a H6 k6 w6 e5a t5a => ?_⟩
  have k6' := k5'.trans k6
  refine ⟨sz (by simp), fun p7 n7 => ?_⟩
  obtain ⟨s7, e5b⟩ := newT w6.some (.cons e5a .nil) n7
  generalize upd _ p7 _ = H7 at s7 e5b ⊢
  have w7 := w6.to s7
  have k7' := k6'.trans (Kp.of s7)
  have g5 := ((k4.trans k5).trans k6).trans (Kp.of s7)
  refine cat_da w7.some (e1.kp g5) e5b (by simp; omega) fun v5 H8 s8 e5 => ?_
  have w8 := w7.to s8
  have k8' := k7'.trans (Kp.of s8)
  refine ⟨.ref a, rfl, a, rfl, w8, fun v6 d6 H9 k9 w9 e6 t6 => ?_⟩
  have k9' := k8'.trans k9
  have g8 := Kp.trans (g5.trans (Kp.of s8)) k9
  refine ⟨v1, rfl, sz (by simp), fun p10 n10 => ?_⟩
  obtain ⟨s10, e7⟩ := newT w9.some (.cons (e1.kp g8) .nil) n10
  generalize upd _ p10 _ = H10 at s10 e7 ⊢
  have w10 := w9.to s10
  have k10' := k9'.trans (Kp.of s10)
  have g10 := g8.trans (Kp.of s10)
  have all := DaAll.cons (e1.kp g10) (.cons (e2.kp g10) (.cons (e3.kp (((k5.trans k6).trans (Kp.of s7)).trans (((Kp.of s8).trans k9).trans (Kp.of s10)))) (.cons (e4.kp ((k6.trans (Kp.of s7)).trans (((Kp.of s8).trans k9).trans (Kp.of s10))))
    (.cons (e5.kp (k9.trans (Kp.of s10))) (.cons (e6.same s10) (.cons e7 .nil))))))
  have t5 : Sm 6 30 (.tuple (ds ++ [d5a])) := sm_tup (by simp; omega) fun d hd => by
    rcases List.mem_append.mp hd with z | z
    · exact (t1.mem z).up (by decide) (by decide)
    · rw [List.mem_singleton.mp z]; exact t5a.up (by decide) (by decide)
  have t7 : Sm 3 20 (.tuple [.tuple ds]) := sm_tup (by simp) fun d hd => by rw [List.mem_singleton.mp hd]; exact t1
  have tall : ∀ d ∈ [PyData.tuple ds, d2, d3, d4, .tuple (ds ++ [d5a]), d6, .tuple [.tuple ds]], Sm 20 1000 d := fun d hd => by
    simp only [List.mem_cons, List.not_mem_nil, or_false] at hd
    rcases hd with rfl | rfl | rfl | rfl | rfl | rfl | rfl
    · exact t1.up (by decide) (by decide)
    · exact t2.up (by decide) (by decide)
    · exact t3.up (by decide) (by decide)
    · exact t4.up (by decide) (by decide)
    · exact t5.up (by decide) (by decide)
    · exact t6.up (by decide) (by decide)
    · exact t7.up (by decide) (by decide)
  generalize hall : [PyData.tuple ds, d2, d3, d4, .tuple (ds ++ [d5a]), d6, .tuple [.tuple ds]] = dsA at all tall
  have la := all.len
  refine ⟨sz (by simp), fun p11 n11 => ?_⟩
  have s11 := same_new (o := .lst [v1, v2, v3, v4, v5, v6, .ref p10]) n11
  have h11 : upd H10 p11 (.lst [v1, v2, v3, v4, v5, v6, .ref p10]) p11 = some (.lst [v1, v2, v3, v4, v5, v6, .ref p10]) := upd_same
  generalize upd H10 p11 _ = H11 at s11 h11 ⊢
  have all := all.same s11
  refine lc_mapL (fun d => V.bl (polyB d)) rfl h11 all (by simp) (wipe1 _ 6) (fun x d H1 hm s1 dx R k => ⟨x, rfl, a, x, d, _, rfl, dx, tall d hm, k⟩) fun L1 H12 s12 nL1 hL1 => ?_
  refine lc_mapL (fun d => V.bl (polyB d)) rfl (s12 _ _ h11) (all.same s12) (by simp) (wipe1 _ 6) (fun x d H1 hm s1 dx R k => ⟨x, rfl, a, x, d, _, rfl, dx, tall d hm, k⟩) fun L2 H13 s13 nL2 hL2 => ?_
  have ld : dsA.length = 7 := by rw [← la]; rfl
  refine ⟨L1, L2, _, _, rfl, rfl, s13 _ _ hL1, hL2, sz (by rw [List.length_map, ld]; decide), fun T nT => ?_⟩
  have s14 := same_new (o := .lst (dsA.map (fun d => V.bl (polyB d)) ++ dsA.map (fun d => V.bl (polyB d)))) nT
  have hT : upd H13 T (.lst (dsA.map (fun d => V.bl (polyB d)) ++ dsA.map (fun d => V.bl (polyB d)))) T = some (.lst (dsA.map (fun d => V.bl (polyB d)) ++ dsA.map (fun d => V.bl (polyB d)))) := upd_same
  generalize upd H13 T _ = H14 at s14 hT ⊢
  have s1114 := (s12.trans s13).trans s14
  refine lc_mapL (fun d => V.bl (polyB d)) rfl (s1114 _ _ h11) (all.same s1114) (by simp) (wipe1 _ 6) (fun x d H1 hm s1 dx R k => ⟨x, rfl, a, x, d, _, rfl, dx, tall d hm, k⟩) fun D H15 s15 nD hD => ?_
  have eb : dsA.map (fun d => V.bl (polyB d)) ++ dsA.map (fun d => V.bl (polyB d)) = (dsA.map polyB ++ dsA.map polyB).map V.bl := by rw [List.map_append, List.map_map]; rfl
  rw [eb] at hT
  have lb : (dsA.map polyB ++ dsA.map polyB).length ≤ 1000 := by rw [List.length_append, List.length_map, ld]; decide
  refine ⟨.ref T, rfl, T, _, rfl, dp_bools (s15 _ _ hT), shaped_bools _, showable_bools _, short_bools _ lb, ?_⟩
  refine ⟨.ref D, rfl, .ref D, rfl, D, D, _, _, rfl, rfl, hD, hD, sz (by rw [List.length_map, ld]; decide), fun T2 nT2 => ?_⟩
  have s16 := same_new (o := .lst (dsA.map (fun d => V.bl (polyB d)) ++ dsA.map (fun d => V.bl (polyB d)))) nT2
  refine ⟨T2, _, rfl, dp_bools (bs := dsA.map polyB ++ dsA.map polyB) (by rw [upd_same, eb]), shaped_bools _, showable_bools _, short_bools _ lb, rfl, ?_⟩
  rw [decide_eq_true rfl]
  exact q _ (k10'.trans (Kp.of (((s11.trans s1114).trans s15).trans s16)))
end
end K21

set_option Elab.async false
set_option linter.all false
set_option maxRecDepth 100000
set_option maxHeartbeats 8000000
local macro_rules | `(tactic| walk_at "rd") => `(tactic| dsimp only [Evl.tCut, L2.tSeq, L2.tNext, L2.tRet, L2.tRetN, L2.tAsg, L2.gName, L2.tIfS, L2.tDrop, L2.tCons, L2.tNil, L2.tC, L2.tVar, L2.tCB, L2.tAndV, L2.tOrV, L2.tNotV, L2.tB, L2.tTest, L2.tOp, L2.tUn, L2.tNot, L2.tAnd, L2.tOr, L2.tIf, L2.tCall, L2.tTup, L2.tLst, L2.tNotT, L2.tYes, L2.gTup, L2.gCons, L2.gNil, L2.gSub, L2.tBM0, L2.tBM, L2.tWhile, L2.iRng1, L2.tSl, L2.tNoPart, L2.tPart, Tw.tRevT])
namespace K21
open PySem PySem.Spec PyProof.Rows L2 Tw
/-- a new well -/
def spWell (K : PySem.W.Frag) : Sp := fun vs H Q _ => ∃ (p : Addr) (ns : List Int) (k : Int), vs = [.ref p, .int k] ∧ SqL K H p (ns.map V.int) ∧ ns.length ≤ 63 ∧ 0 ≤ k ∧ ∀ a H', Same H H' → H a = none → We a H' → Q (.ref a) H'
def spLaw (K : PySem.W.Frag) : Sp := fun vs H Q _ => ∃ (p : Addr) (ns : List Int), vs = [.ref p] ∧ SqL K H p (ns.map V.int) ∧ ns.length ≤ 63 ∧ ∀ H', Q (.bl true) H'
section
variable {P : Program} {w : World} {K : PySem.W.Frag} {mg : Str → Option Value} {base : Heap}
theorem scWell : FnScope ["_law_script", "_law_at", "_law_mixed", "_law_cell", "_law_own"] ["_law_script", "_law_at"] (defScope sWell) := ⟨rfl, rfl, rfl, by decide +kernel, rfl, by decide +kernel, by decide +kernel⟩
theorem ok_well (D : Def K mg "_law_well" sWell ["_law_script", "_law_at"]) (nb : Nb mg) : Cal P w K mg base "_law_well" 1 ["_law_script", "_law_at"] (spWell K) := by
  refine D.ok scWell (fun vs H Q E h => ?_) (fun f cdv A out s H vs Q E hr h => ?_)
  · obtain ⟨p, ns, k, rfl, _⟩ := h; rfl
  obtain ⟨p, ns, k, rfl, hp, hl, k0, q⟩ := h
  refine ⟨_, pss_cons (ps_set (i := 2) scWell.nd rfl (Or.inl rfl) (pe_op op_add pe_int (pe_op op_mul pe_int (pv 1))))
    (pss_cons (ps_for PassesOwn.never rfl (pi_list (pe_slice sl_list (pv 0) po_none (po_some pe_int))) (pg_name (i := 3) scWell.nd rfl (Or.inl rfl))
        (pss_one (ps_set (i := 2) scWell.nd rfl (Or.inl rfl) (pe_op op_mod (pe_callTy (T := "int") call_int1 (by rfl) nb.int (by decide +kernel)
          (pa_cons (pe_op op_add (pe_op op_add (pe_op op_mul (pv 2) pe_int) (pe_op op_mod (pe_callTy (T := "int") call_int1 (by rfl) nb.int (by decide +kernel) (pa_cons (pv 3) pa_nil)) pe_int)) pe_int) pa_nil)) pe_int))))
    (Evl.pss_cut (ps_set (i := 4) scWell.nd rfl (Or.inl rfl) (pe_ifExp (pt_cmpR op_lt (pv 1) (pe_callB (id := "len") call_len_seq (by rfl) nb.len PySem.boot_len (pa_cons (pv 0) pa_nil)) (nomark _))
        (pe_callTy (T := "int") call_int1 (by rfl) nb.int (by decide +kernel) (pa_cons (pe_ix ix_list (pv 0) (pv 1) (fun _ _ => rfl)) pa_nil)) pe_int))
    (pss_cons (ps_set (i := 2) scWell.nd rfl (Or.inl rfl) (pe_op op_mod (pe_callTy (T := "int") call_int1 (by rfl) nb.int (by decide +kernel)
        (pa_cons (pe_op op_add (pe_op op_add (pe_op op_mul (pv 2) pe_int) (pe_op op_mul (pe_op op_mod (pe_callTy (T := "int") call_int1 (by rfl) nb.int (by decide +kernel) (pa_cons (pv 4) pa_nil)) pe_int) pe_int)) pe_int) pa_nil)) pe_int))
    (pss_one (ps_ret (pe_lst (pa_cons (pe_ifExp (PW.pt (pw_or (pt_cmpR op_lt (pv 4) pe_int (nomark _)) (pw_or1 (pt_cmpR op_ge (pv 4) (pe_op op_pow pe_int pe_int) (nomark _)))))
        (pe_callB (id := "abs") call_abs (by rfl) nb.abs (by decide +kernel) (pa_cons (pv 4) pa_nil)) pe_int) (pa_cons (pv 2) (pa_cons pe_int pa_nil))))))))), ?_⟩
  walk_at "rd"
  refine ⟨.int k, rfl, _, _, rfl, rfl, .inl ⟨by decide, by decide⟩, _, _, rfl, rfl, .ref p, rfl, 9, rfl, p, _, rfl, hp, fun c nc => ?_⟩
  have s1 := same_new (o := .lst (L2.cutV (ns.map V.int) none (some 9))) nc
  have hc : upd H c (.lst (L2.cutV (ns.map V.int) none (some 9))) c = some (.lst (L2.cutV (ns.map V.int) none (some 9))) := upd_same
  generalize upd H c _ = H1 at s1 hc ⊢
  have hp1 : SqL K H1 p (ns.map V.int) := s1.seq hp
  refine ⟨c, rfl, ⟨_, SqL.of hc⟩, for_lst (xs := L2.cutV (ns.map V.int) none (some 9)) (fun i σ H' => ∃ (mx : Int) (x3 : Option V), σ = [some (.ref p), some (.int k), some (.int mx), x3, none] ∧ H' = H1) ⟨_, none, rfl, rfl⟩ (fun i σ' H' _ h => ?_) (fun i x σ' H' hx h => ?_) (fun σ' H' h => ?_)⟩
  · obtain ⟨mx, x3, rfl, rfl⟩ := h; exact SqL.of hc
  · obtain ⟨mx, x3, rfl, rfl⟩ := h
    obtain ⟨n, _, rfl⟩ : ∃ n, n ∈ ns ∧ V.int n = x := List.mem_map.mp (List.mem_of_mem_drop (List.mem_of_mem_take (List.mem_of_getElem? hx)))
    refine ⟨.int mx, rfl, _, _, rfl, rfl, .inr ⟨by decide, by decide⟩, .int n, rfl, .inl ⟨n, rfl, _, _, rfl, rfl, (by show (0 : Int) < _; decide), _, _, rfl, rfl, _, _, rfl, rfl, .inl ⟨_, rfl, _, _, rfl, rfl, (by show (0 : Int) < _; decide), ?_⟩⟩⟩
    exact ⟨_, some (.int n), rfl, rfl⟩
  · obtain ⟨mx, x3, rfl, rfl⟩ := h
    refine ⟨fun σ2 H2 => ∃ o : Int, σ2 = [some (.ref p), some (.int k), some (.int mx), x3, some (.int o)] ∧ H2 = H', ⟨.int k, rfl, .ref p, rfl, p, _, rfl, .inl hp1, _, _, rfl, rfl, _, rfl, ite2 (fun c1 => ?_) (fun c1 => ⟨0, rfl, rfl⟩)⟩, ?_⟩
    · have c1 := of_decide_eq_true c1
      rw [List.length_map] at c1
      obtain ⟨j, rfl⟩ := Int.eq_ofNat_of_zero_le k0
      have hj : j < ns.length := by omega
      refine ⟨.ref p, rfl, .int j, rfl, p, _, j, .int ns[j], rfl, rfl, hp1, atI_nat (by rw [List.getElem?_map, List.getElem?_eq_getElem hj]; rfl), .inl ⟨_, rfl, ns[j], rfl, rfl⟩⟩
    · rintro σ2 H2 ⟨o, rfl, rfl⟩
      refine ⟨.int mx, rfl, _, _, rfl, rfl, .inr ⟨by decide, by decide⟩, .int o, rfl, .inl ⟨o, rfl, _, _, rfl, rfl, (by show (0 : Int) < _; decide), _, _, rfl, rfl, .inr ⟨by decide, by decide⟩, _, _, rfl, rfl, _, _, rfl, rfl, .inl ⟨_, rfl, _, _, rfl, rfl, (by show (0 : Int) < _; decide), ?_⟩⟩⟩
      have fin : ∀ x y : Int, [V.int x, .int y, .int 0].length ≤ sizeLine ∧ ∀ a, H2 a = none → Q (.ref a) (upd H2 a (.lst [.int x, .int y, .int 0])) := fun x y => ⟨sz (by simp), fun a na => q a _ (s1.trans (same_new na)) (s1.free na) ⟨_, _, _, upd_same⟩⟩
      refine ⟨.int o, rfl, _, _, rfl, rfl, _, rfl, ite2 (fun c1 => ?_) (fun c1 => ?_)⟩
      · exact iteT ⟨.int o, rfl, o, rfl, _, rfl, fin _ _⟩
      · refine ⟨.int o, rfl, _, _, rfl, rfl, ⟨by decide, by decide, by decide⟩, _, _, rfl, rfl, _, rfl, ite2 (fun c2 => ?_) (fun c2 => ?_)⟩
        · exact ⟨.int o, rfl, o, rfl, _, rfl, fin _ _⟩
        · exact ⟨_, rfl, fin _ _⟩

theorem scLaw : FnScope ["_law_script", "_law_at"] ["_law_script"] (defScope sLaw) := ⟨rfl, rfl, rfl, by decide +kernel, rfl, by decide +kernel, by decide +kernel⟩
theorem ok_law (D : Def K mg "law" sLaw ["_law_script"]) (nb : Nb mg) (c1 : Cal P w K mg base "_law_well" 1 ["_law_script", "_law_at"] (spWell K)) (c2 : CalG P w K mg base "_law_right" 14 ["_law_well_here"] spRight) :
    CalG P w K mg base "law" 15 ["_law_script"] (spLaw K) := by
  refine D.okG scLaw (fun vs H Q E h => ?_) (fun f cdv A out s H vs Q E hq hr h => ?_)
  · obtain ⟨p, ns, rfl, _⟩ := h; rfl
  obtain ⟨p, ns, rfl, hp, hl, q⟩ := h
  refine ⟨_, pss_one (ps_ret (pe_callB (id := "all") (r := rAll K) (cr_all rfl) (by rfl) nb.all (by decide +kernel) (pa_cons
    (pe_lc (own := [("_law_at", 1)]) (g := gName 1) (tt := tYes) rfl scLaw.nd (pi_range1 (by rfl) nb.rng (pa_cons (pe_callB (id := "max") (call_max2 rfl) (by rfl) nb.max (by decide +kernel) (pa_cons pe_int (pa_cons
        (pe_callB (id := "min") (call_min2 rfl) (by rfl) nb.min (by decide +kernel) (pa_cons (pe_callB (id := "len") call_len_seq (by rfl) nb.len PySem.boot_len (pa_cons (pv 0) pa_nil)) (pa_cons pe_int pa_nil))) pa_nil))) pa_nil))
      (blkOk_by (N := ["_law_script", "_law_at"]) (sc := defScope sLaw) (by decide +kernel)) (fun _ _ _ _ _ => pg_name (i := 1) scLaw.nd rfl (Or.inl rfl)) (fun _ _ _ _ _ => pts_nil)
      (fun _ _ _ _ _ => pe_calG c2 hq hr (by decide) (by rfl) (pa_cons (pe_cal c1 hr (by decide) (by rfl) (pa_cons (pv 0) (pa_cons (pv 1) pa_nil))) pa_nil))) pa_nil))), ?_⟩
  walk_at "rd"
  generalize hm : (if (4 : Int) < ((ns.map V.int).length : Int) then (4 : Int) else ((ns.map V.int).length : Int)) = m
  generalize hk : (if m > 2 then m else 2) = k
  have k0 : 2 ≤ k := by rw [← hk]; split <;> omega
  have k1 : k ≤ 4 := by
    have : m ≤ 4 := by rw [← hm]; split <;> omega
    rw [← hk]; split <;> omega
  refine lc_rng (n := k.toNat) (fun _ => V.bl true) (fun R hR => ?_) (by omega) (wipe1 _ 1) (fun i H1 hi s1 R kR => ?_) fun L H1 s1 nL hL => ?_
  · refine ⟨.ref p, rfl, p, _, rfl, .inl hp, _, _, rfl, _, _, rfl, k, ?_, by omega, by omega, hR⟩
    rw [hm, hk]
  · refine ⟨.ref p, rfl, .int (0 + (i : Int)), rfl, p, ns, _, rfl, s1.seq hp, hl, by omega, fun a H2 s2 na w2 => ⟨a, rfl, w2, fun H3 k3 => kR H3 (same_kp s2 na k3)⟩⟩
  · refine ⟨L, (List.range k.toNat).map (fun _ => true), rfl, SqL.of (by rw [List.map_map]; exact hL), ?_⟩
    have e : ((List.range k.toNat).map (fun _ => true)).all id = true := by
      rw [List.all_eq_true]
      intro b hb
      obtain ⟨_, _, rfl⟩ := List.mem_map.mp hb
      rfl
    rw [e]
    exact q H1
end
end K21

set_option Elab.async false
set_option linter.all false
set_option maxRecDepth 100000
namespace K21
open PySem PySem.Spec PyProof.Rows L2 Tw
/-- all defs and names, put together -/
theorem whole {P : Program} {w : World} {K : PySem.W.Frag} {mg : Str → Option Value} {base : Heap} (nb : Nb mg)
    (d1 : Def K mg "is_whole" sWhole ["value"]) (d3 : Def K mg "is_row" sRow ["value"]) (d5 : Def K mg "is_poly" sPoly ["value"]) (d7 : Def K mg "_law_well" sWell ["_law_script", "_law_at"])
    (d8 : Def K mg "_law_draw" sDraw ["_law_well_here", "_law_many"]) (d9 : Def K mg "_law_pick" sPick ["_law_well_here", "_law_some"]) (d10 : Def K mg "_law_trim" sTrim ["_law_some"]) (d11 : Def K mg "_law_number" sNum ["_law_well_here"])
    (d12 : Def K mg "_law_row" sLRow ["_law_well_here", "_law_many"]) (d13 : Def K mg "_law_poly" sLPoly ["_law_well_here", "_law_many"]) (d14 : Def K mg "_law_is_row" sIsRow ["_law_thing"]) (d15 : Def K mg "_law_is_poly" sIsPoly ["_law_thing"])
    (d16 : Def K mg "_law_odd" sOdd ["_law_well_here"]) (d17 : Def K mg "_law_bent" sBent ["_law_well_here", "_law_thing"]) (d18 : Def K mg "_law_right" sRight ["_law_well_here"]) (d19 : Def K mg "law" sLaw ["_law_script"]) :
    CalG P w K mg base "law" 15 ["_law_script"] (spLaw K) := by
  have c1 := ok_whole (P := P) (w := w) (base := base) d1 nb
  have c3 := ok_row d3 nb c1
  have c5 := ok_poly d5 nb c3
  have c7 := ok_well (P := P) (w := w) (base := base) d7 nb
  have c8 := ok_draw (P := P) (w := w) (base := base) d8 nb
  have c9 := ok_pick d9 nb c8
  have c10 := ok_trim (P := P) (w := w) (base := base) d10 nb
  have c11 := ok_num d11 c8
  have c12 := ok_lrow d12 nb c8 c11 c10
  have c13 := ok_lpoly d13 nb c8 c12 c10
  have c14 := ok_isRow (P := P) (w := w) (base := base) d14 nb
  have c15 := ok_isPoly d15 nb c14
  have c16 := ok_odd d16 c9
  have c17 := bent_all d17 nb c8 c16 10
  exact ok_law d19 nb c7 (ok_right d18 nb d5 c5 c8 c16 c17 c13 c15)
end K21
open PySem PySem.W PyProof.Rows
set_option maxHeartbeats 0 in
theorem PySem.Challenge.cw_twoletters_k21_polys_of_anything_holds : PySem.Challenge.rw_twoletters_k21_polys_of_anything.Holds := by
  w_on; o_law; k_head; (case hw => w_witness2)
  k_fill
  refine Tw.walk_quiet (l := PySem.Challenge.rw_twoletters_k21_polys_of_anything) (n := 63) (k := 15) (x := "_law_script") (sp := K21.spLaw) rfl (by decide) rfl ⟨rfl, by decide, by decide⟩ (fun w h Y => PySem.W.kIn_of Y) ?F
    (fun K H a ns hl _ hS => ⟨a, ns, rfl, hS, hl, fun _ => rfl⟩)
  case F =>
    intro w mg fa h KX G hmg
    refine' Tw.with_def (x := "is_whole") (st := K21.sWhole) (ps := ["value"]) KX G ?a ?l ?c ?k (fun _ _ _ _ _ _ us hl => match us, hl with | [_], _ => rfl) (fun d0 => ?_)
    (case a => k_is); (case l => k_is); (case c => k_is); (case k => k_is)
    refine' Tw.with_def (x := "is_row") (st := K21.sRow) (ps := ["value"]) KX G ?a ?l ?c ?k (fun _ _ _ _ _ _ us hl => match us, hl with | [_], _ => rfl) (fun d1 => ?_)
    (case a => k_is); (case l => k_is); (case c => k_is); (case k => k_is)
    refine' Tw.with_def (x := "is_poly") (st := K21.sPoly) (ps := ["value"]) KX G ?a ?l ?c ?k (fun _ _ _ _ _ _ us hl => match us, hl with | [_], _ => rfl) (fun d2 => ?_)
    (case a => k_is); (case l => k_is); (case c => k_is); (case k => k_is)
    refine' Tw.with_def (x := "_law_well") (st := K21.sWell) (ps := ["_law_script", "_law_at"]) KX G ?a ?l ?c ?k (fun _ _ _ _ _ _ us hl => match us, hl with | [_, _], _ => rfl) (fun d3 => ?_)
    (case a => k_is); (case l => k_is); (case c => k_is); (case k => k_is)
    refine' Tw.with_def (x := "_law_draw") (st := K21.sDraw) (ps := ["_law_well_here", "_law_many"]) KX G ?a ?l ?c ?k (fun _ _ _ _ _ _ us hl => match us, hl with | [_, _], _ => rfl) (fun d4 => ?_)
    (case a => k_is); (case l => k_is); (case c => k_is); (case k => k_is)
    refine' Tw.with_def (x := "_law_pick") (st := K21.sPick) (ps := ["_law_well_here", "_law_some"]) KX G ?a ?l ?c ?k (fun _ _ _ _ _ _ us hl => match us, hl with | [_, _], _ => rfl) (fun d5 => ?_)
    (case a => k_is); (case l => k_is); (case c => k_is); (case k => k_is)
    refine' Tw.with_def (x := "_law_trim") (st := K21.sTrim) (ps := ["_law_some"]) KX G ?a ?l ?c ?k (fun _ _ _ _ _ _ us hl => match us, hl with | [_], _ => rfl) (fun d6 => ?_)
    (case a => k_is); (case l => k_is); (case c => k_is); (case k => k_is)
    refine' Tw.with_def (x := "_law_number") (st := K21.sNum) (ps := ["_law_well_here"]) KX G ?a ?l ?c ?k (fun _ _ _ _ _ _ us hl => match us, hl with | [_], _ => rfl) (fun d7 => ?_)
    (case a => k_is); (case l => k_is); (case c => k_is); (case k => k_is)
    refine' Tw.with_def (x := "_law_row") (st := K21.sLRow) (ps := ["_law_well_here", "_law_many"]) KX G ?a ?l ?c ?k (fun _ _ _ _ _ _ us hl => match us, hl with | [_, _], _ => rfl) (fun d8 => ?_)
    (case a => k_is); (case l => k_is); (case c => k_is); (case k => k_is)
    refine' Tw.with_def (x := "_law_poly") (st := K21.sLPoly) (ps := ["_law_well_here", "_law_many"]) KX G ?a ?l ?c ?k (fun _ _ _ _ _ _ us hl => match us, hl with | [_, _], _ => rfl) (fun d9 => ?_)
    (case a => k_is); (case l => k_is); (case c => k_is); (case k => k_is)
    refine' Tw.with_def (x := "_law_is_row") (st := K21.sIsRow) (ps := ["_law_thing"]) KX G ?a ?l ?c ?k (fun _ _ _ _ _ _ us hl => match us, hl with | [_], _ => rfl) (fun d10 => ?_)
    (case a => k_is); (case l => k_is); (case c => k_is); (case k => k_is)
    refine' Tw.with_def (x := "_law_is_poly") (st := K21.sIsPoly) (ps := ["_law_thing"]) KX G ?a ?l ?c ?k (fun _ _ _ _ _ _ us hl => match us, hl with | [_], _ => rfl) (fun d11 => ?_)
    (case a => k_is); (case l => k_is); (case c => k_is); (case k => k_is)
    refine' Tw.with_def (x := "_law_odd") (st := K21.sOdd) (ps := ["_law_well_here"]) KX G ?a ?l ?c ?k (fun _ _ _ _ _ _ us hl => match us, hl with | [_], _ => rfl) (fun d12 => ?_)
    (case a => k_is); (case l => k_is); (case c => k_is); (case k => k_is)
    refine' Tw.with_def (x := "_law_bent") (st := K21.sBent) (ps := ["_law_well_here", "_law_thing"]) KX G ?a ?l ?c ?k (fun _ _ _ _ _ _ us hl => match us, hl with | [_, _], _ => rfl) (fun d13 => ?_)
    (case a => k_is); (case l => k_is); (case c => k_is); (case k => k_is)
    refine' Tw.with_def (x := "_law_right") (st := K21.sRight) (ps := ["_law_well_here"]) KX G ?a ?l ?c ?k (fun _ _ _ _ _ _ us hl => match us, hl with | [_], _ => rfl) (fun d14 => ?_)
    (case a => k_is); (case l => k_is); (case c => k_is); (case k => k_is)
    refine' Tw.with_def (x := "law") (st := K21.sLaw) (ps := ["_law_script"]) KX G ?a ?l ?c ?k (fun _ _ _ _ _ _ us hl => match us, hl with | [_], _ => rfl) (fun d15 => ?_)
    (case a => k_is); (case l => k_is); (case c => k_is); (case k => k_is)
    refine' Tw.with_no (x := "isinstance") KX G ?z (fun z0 => ?_)
    (case z => k_is)
    refine' Tw.with_no (x := "int") KX G ?z (fun z1 => ?_)
    (case z => k_is)
    refine' Tw.with_no (x := "bool") KX G ?z (fun z2 => ?_)
    (case z => k_is)
    refine' Tw.with_no (x := "tuple") KX G ?z (fun z3 => ?_)
    (case z => k_is)
    refine' Tw.with_no (x := "all") KX G ?z (fun z4 => ?_)
    (case z => k_is)
    refine' Tw.with_no (x := "len") KX G ?z (fun z5 => ?_)
    (case z => k_is)
    refine' Tw.with_no (x := "list") KX G ?z (fun z6 => ?_)
    (case z => k_is)
    refine' Tw.with_no (x := "divmod") KX G ?z (fun z7 => ?_)
    (case z => k_is)
    refine' Tw.with_no (x := "range") KX G ?z (fun z8 => ?_)
    (case z => k_is)
    refine' Tw.with_no (x := "max") KX G ?z (fun z9 => ?_)
    (case z => k_is)
    refine' Tw.with_no (x := "min") KX G ?z (fun z10 => ?_)
    (case z => k_is)
    refine' Tw.with_no (x := "abs") KX G ?z (fun z11 => ?_)
    (case z => k_is)
    refine' Tw.with_no (x := "repr") KX G ?z (fun z12 => ?_)
    (case z => k_is)
    exact Tw.end_law d15 hmg (fun base => K21.whole ⟨z0, z1, z2, z3, z4, z5, z6, z7, z8, z9, z10, z11, z12⟩ d0 d1 d2 d3 d4 d5 d6 d7 d8 d9 d10 d11 d12 d13 d14 d15) (fun _ _ _ _ _ _ _ => rfl)
