import PyProof.Rows.All
import Wide.All
import OpenK.AllK
import Wide.FinOn
import HandS.ForMost
import HandS.IsInst
import HandS.TupAny
import HandS.Flow
import HandS.Evl
import HandS.TupMul
import HandS.SortKw
import HandS.WideBits
import HandS.Gcd
import HandS.Rev
import HandS.Style
import KE.DataMinMax
import KE.GoesMore
import PyProof.Draws
import HandS.ExcInit
import HandS.ExcValue
import HandS.ExcOwn
import KE.KExcIs
import PyProof.ReprBulk
import PyProof.CallFns
import PyProof.ReprRoads
import PySem.Challenge.RW_twoletters_k01_errors_each_of_its_own
set_option Elab.async false
set_option linter.all false
set_option maxRecDepth 100000
set_option maxHeartbeats 4000000
/-! a def's promise where no container is being written out (for repr) -/
namespace Tw
open PySem PySem.Spec PyProof.Rows L2

/-- nothing is being written out around here -/
abbrev Qt (A : Around) : Prop := A.guards = some []

structure FnG (P : Program) (w : World) (K : PySem.W.Frag) (mg : Str → Option Value) (base : Heap) (k : Nat) (f : Addr)
    (fd : FuncData) (ps : List Str) (sp : Sp) : Prop where
  many : ∀ vs H Q E, sp vs H Q E → vs.length = ps.length
  goes : ∀ (A : Around) (out : List Env) (s : Shared) (H : Hp) (g : Args) (us : List Value) (vs : List V) (Q : VK) (E : XK),
    Qt A → Room k A → Env0 P w K mg base A out s H → BindsTo s fd g (ps.zip us) → Vals vs us → sp vs H Q E →
    codeAny (model P w) A (.call (.ref f) g) (CR CX0 out P w H s Q E) s

section
variable {P : Program} {w : World} {K : PySem.W.Frag} {mg : Str → Option Value} {base : Heap} {k j : Nat} {f : Addr}
  {fd : FuncData} {ps : List Str} {sp : Sp}
theorem FnG.of (F : FnOk P w K mg base CX0 k f fd ps sp) : FnG P w K mg base k f fd ps sp :=
  ⟨F.len, fun A out s H g us vs Q E _ hr => F.run A out s H g us vs Q E hr⟩
theorem FnG.up (F : FnG P w K mg base j f fd ps sp) (h : j ≤ k) : FnG P w K mg base k f fd ps sp :=
  ⟨F.many, fun A out s H g us vs Q E hq hr => F.goes A out s H g us vs Q E hq (hr.mono h)⟩
theorem FnG.imp {sp' : Sp} (F : FnG P w K mg base k f fd ps sp) (h : ∀ vs H Q E, sp' vs H Q E → sp vs H Q E) :
    FnG P w K mg base k f fd ps sp' :=
  ⟨fun vs H Q E q => F.many vs H Q E (h _ _ _ _ q),
   fun A out s H g us vs Q E hq hr he hb hv hs => F.goes A out s H g us vs Q E hq hr he hb hv (h _ _ _ _ hs)⟩

/-- a def by its body, the place where it runs being quiet -/
theorem Fun.okG {x qual : Str} {st : Stmt} {N : List Str} (F : Fun K x qual st f fd) (S : FnScope N ps (defScope st))
    (many : ∀ vs H Q E, sp vs H Q E → vs.length = ps.length)
    (hbody : ∀ (cdv : Value) (A : Around) (out : List Env) (s : Shared) (H : Hp) (vs : List V) (Q : VK) (E : XK),
      Qt (A.deeper (envOfC qual (defScope st) s.heap.objs.size f cdv)) →
      Room k (A.deeper (envOfC qual (defScope st) s.heap.objs.size f cdv)) → sp vs H Q E →
      ∃ t, PSs (cxOf CX0 P w K mg base N qual (defScope st) f cdv A out s H E).nox (defBody st) t ∧
        t { nx := fun _ H' => Q .non H', rt := Q } (start N vs) H) : FnG P w K mg base (k + 1) f fd ps sp := by
  obtain ⟨oc, od, kV, doc, pm, an, cdv, ct, osl, rfl, lk, hcd⟩ := F.ex
  refine ⟨many, fun A out s H g us vs Q E hq hr e0 hb r hsp => ?_⟩
  have hlen : vs.length = ps.length := many _ _ _ _ hsp
  have inS : ∀ b o, base.get? b = some o → s.heap.get? b = some o := fun b o e => (e0.bs b o e).1
  have kx : K.In s.heap := e0.mod.kin.keeps inS
  have nolim : s.heap.NoLimit := e0.mod.nolimit.keeps inS
  have kinds : ∀ y ∈ ps.zip us, (defScope st).names.lookup y.1 = some .local ∨
      ((defScope st).names.lookup y.1 = some .cell ∧
        ((cellsFrom (s.heap.objs.size + 1) (defScope st).names []).lookup y.1).isSome = true) := by
    rintro ⟨n, v⟩ hy
    cases S.par n (List.of_mem_zip hy).1 with
    | inl q => exact Or.inl q
    | inr q => exact Or.inr ⟨q, PySem.W.cellsFrom_some _ _ _ (Or.inl q)⟩
  have rec1 := PySem.W.codeRec_of kx hcd
  refine codeAny_call_function hr.depth (kx _ _ lk) rfl S.co S.gen rfl rec1 (hb _ _ _ _ ?_)
  refine wpAny_newFunctionEnv_cells S.kind kinds fun env he s1 x => ?_
  subst he
  refine ⟨nolim.keeps x.toInCall.keep, codeAny_func ?_⟩
  have hq' : Qt (A.deeper (envOfC qual (defScope st) s.heap.objs.size f cdv)) := hq
  obtain ⟨t, ht, hw⟩ := hbody cdv A out s H vs Q E hq' (hr.deeper _) hsp
  have I := inv_start (CX := CX0) (cd := cdv) (E := E) (f := f) (qual := qual) S hr.hd e0 hlen r x
  refine wpAny_mono (ht.nox.run [] s1 (start N vs) H _ I hw) (fun fl s' hs => ?_) fun e s' hs => hs
  cases fl with
  | ret u => obtain ⟨v, σ', H', J, rv, q⟩ := hs; exact ⟨v, H', J.os, J.bare, J.base, J.hok, rv, q⟩
  | next => obtain ⟨σ', H', J, q⟩ := hs; exact ⟨V.non, H', J.os, J.bare, J.base, J.hok, rfl, q⟩
  | brk => obtain ⟨_, _, _, q⟩ := hs; exact q.elim
  | cont => obtain ⟨_, _, _, q⟩ := hs; exact q.elim
end

section
variable {X : Cx} {k : Nat} {f : Addr} {fd : FuncData} {ps : List Str} {sp : Sp} {x : Str} {p pos : Pos} {e : Expr}
  {es : List Expr} {t : TA}
/-- f(e, ..), f a def that wants quiet -/
theorem pe_callG (F : FnG X.prog X.w X.K X.mg X.base k f fd ps sp) (hq : Qt X.A) (hr : Room k X.A) (hg : Gl X x)
    (hm : X.mg x = some (.ref f)) (hk : PySem.W.keepIn X.K (.ref f) = true) (hb : Binds X.K fd ps [])
    (ha : PA X (e :: es) t) (hdb : (x == ("__debug__" : Str)) = false := by decide)
    (he : starEach (e :: es) X.env = (false, eval e X.env) :: starEach es X.env := by rfl)
    (hpl : (backTo pos (starEach es X.env)).any (·.1) = false := by rfl) :
    PE X (.Call (.Name x p) (e :: es) [] pos) (tCall sp [] E0 t) := by
  refine ⟨fun pins s σ H Q I h => wpAny_Call_Name_kw (ld_glob I hg hm ?_ hdb)⟩
  refine PySem.W.callWith_K (h₀ := X.base) I.ok.mod.kin hk ?_ he hpl
  refine thn (ha.run pos pins s σ H _ I h) ?_
  rintro us s1 ⟨vs, H1, I1, r, q⟩
  refine ⟨I1.kIn, wpAny_call ?_⟩
  have q' : sp vs H1 Q E0 := by simpa using q
  have hl : us.length = ps.length := by rw [← Vals.length r]; exact F.many _ _ _ _ q'
  have b := hb s1 us I1.kIn (by simpa using hl)
  rw [List.append_nil] at b
  refine codeAny_mono (F.goes X.A X.stack s1 H1 ⟨us, []⟩ us vs Q E0 hq hr I1.env0 b r q') fun r s' hh => ?_
  cases r with
  | error z => exact False.elim hh
  | ok fl =>
    cases fl with
    | ret u => exact I1.after hh
    | next => exact False.elim hh
    | brk => exact False.elim hh
    | cont => exact False.elim hh
end
end Tw

set_option Elab.async false
set_option linter.all false
set_option maxRecDepth 100000
set_option maxHeartbeats 4000000
/-! the end of a law whose def wants quiet -/
namespace Tw
open PySem PySem.Spec PyProof.Rows L2

/-- a promise wide enough that says nothing of exceptions, over a heap in which the script alone may be known -/
theorem law_quiet {P : Program} {w : World} {K : PySem.W.Frag} {mg mb : Str → Option Value} {k : Nat} {fa a : Addr} {fd : FuncData}
    {x : Str} {sp : Sp} {s₁ : Shared} {vs : List Value} {ns : List Int} (KX : K.In s₁.heap) (hns : s₁.heap.Ns mainGlobals mg)
    (hb : s₁.heap.Ns builtinsNs mb) (hbb : ∀ x : Str, x ≠ "__name__" → mb x = bootBuiltins x) (hlim : s₁.heap.NoLimit)
    (hg : s₁.gens = #[]) (ha : s₁.heap.get? a = some { cls := .type "list", data := .seq vs.toArray }) (hi : IntsAre vs ns)
    (hl : ns.length ≤ sizeLine) (hr : Room k callerA)
    (F : ∀ base : Heap, K.In base → base.Ns mainGlobals mg → FnG P w K mg base k fa fd [x] sp)
    (hbind : ∀ (s : Shared) (u : Value), BindsTo s fd ⟨[u], []⟩ [(x, u)])
    (hsp : ∀ H : Hp, Only H → SqL K H a (ns.map V.int) → sp [.ref a] H (fun v _ => v = .bl true) E0) :
    codeAny (model P w) callerA (.call (.ref fa) ⟨[.ref a], []⟩)
      (fun r s' => r = .ok (.ret (.bool true)) ∧ OldK s₁.heap s'.heap ∧ s'.os = s₁.os ∧ AllBare s'.gens) s₁ := by
  have hv := vals_ints hi
  have hn := hi.length
  have main : ∀ H : Hp, Only H → SqL K H a (ns.map V.int) → HOk P w H s₁.heap → (∀ b u, H b = some u → b = a ∧ K.lookup a = none) →
      codeAny (model P w) callerA (.call (.ref fa) ⟨[.ref a], []⟩)
        (fun r s' => r = .ok (.ret (.bool true)) ∧ OldK s₁.heap s'.heap ∧ s'.os = s₁.os ∧ AllBare s'.gens) s₁ := by
    intro H hO hS hok hA
    have dictFree : ∀ {b : Addr} {o : Obj} {es : Array DictEntry} {ep : Nat},
        s₁.heap.get? b = some o → o.data = .dict es ep → H b = none := by
      intro b o es ep e d
      cases q : H b with
      | none => rfl
      | some u =>
        obtain ⟨e1, _⟩ := hA b u q
        rw [e1, ha] at e
        injection e with e
        rw [← e] at d
        exact absurd d (by intro z; cases z)
    have nsB : ∀ {b : Addr} {m : Str → Option Value}, s₁.heap.Ns b m → (hidT s₁.heap H).Ns b m := by
      rintro b m ⟨o, es, ep, e, d, r⟩
      exact ⟨o, es, ep, hidT_get e (dictFree e d), d, r⟩
    have kB : K.In (hidT s₁.heap H) := by
      intro b o e
      refine hidT_get (KX b o e) ?_
      cases q : H b with
      | none => rfl
      | some u =>
        obtain ⟨e1, e2⟩ := hA b u q
        rw [e1, e2] at e
        cases e
    have hM : Mod K mg (hidT s₁.heap H) := by
      obtain ⟨mc, l1, l2⟩ := hlim
      exact ⟨kB, nsB hns, ⟨mb, nsB hb, hbb⟩, ⟨mc, nsB l1, l2⟩⟩
    have noB : ∀ b : Addr, b ∈ frs ([] : List Env) → False := fun b z => by simp [frs] at z
    have e0 : Env0 P w K mg (hidT s₁.heap H) callerA [] s₁ H :=
      ⟨rfl, hM, fun b o e => of_hidT e, Nat.le_of_eq (hidT_size _ _), trivial, fun b z => (noB b z).elim, hok, .of_eq hg⟩
    have go := (F _ kB (nsB hns)).goes callerA [] s₁ H ⟨[.ref a], []⟩ [.ref a] [.ref a] (fun v _ => v = .bl true) E0 rfl hr e0
      (hbind s₁ (.ref a)) (.cons rfl .nil) (hsp H hO hS)
    refine codeAny_mono go fun r s' h => ?_
    cases r with
    | error e => exact False.elim h
    | ok fl =>
      cases fl with
      | next => exact False.elim h
      | brk => exact False.elim h
      | cont => exact False.elim h
      | ret u =>
        obtain ⟨v, H', os, bare, un, hok', rv, q⟩ := h
        subst q
        cases (show u = Value.bool true from rv)
        refine ⟨rfl, OldK.of_keep fun b o e => ?_, os, bare⟩
        cases q : H b with
        | none => exact un.keep b o e q (fun z => noB b z) (by simp)
        | some u =>
          cases hO b with
          | inl z => rw [q] at z; cases z
          | inr z =>
            obtain ⟨ob, xs, z⟩ := z
            have f1 := (hok b _ z).1
            have f2 := (hok' b _ (un.frzs b ob _ z)).1
            rw [e] at f1
            rw [f2, ← f1]
  cases hk : K.lookup a with
  | some o =>
    have e := KX a o hk
    rw [ha] at e
    injection e with e
    subst e
    refine main (fun _ => none) (fun _ => Or.inl rfl) (Or.inr ⟨_, vs.toArray, _, hk, rfl, rfl, rfl, ?_, by simpa using hv⟩) ?_ ?_
    · rw [List.size_toArray, hn]; exact hl
    · intro b u z; exact absurd z (by intro y; cases y)
    · intro b u z; exact absurd z (by intro y; cases y)
  | none =>
    let Ha : Hp := fun b => if b = a then some (.frz { cls := .type "list", data := .seq vs.toArray } (.lst (ns.map V.int))) else none
    have ya : ∀ b, b = a → Ha b = some (.frz { cls := .type "list", data := .seq vs.toArray } (.lst (ns.map V.int))) := fun b h => if_pos h
    have na : ∀ b, b ≠ a → Ha b = none := fun b h => if_neg h
    refine main Ha (fun b => ?_) (Or.inl (Or.inr ⟨_, ya a rfl⟩)) (fun b u z => ?_) (fun b u z => ?_)
    · by_cases h : b = a
      · exact Or.inr ⟨_, _, ya b h⟩
      · exact Or.inl (na b h)
    · by_cases h : b = a
      · rw [ya b h] at z
        injection z with z
        subst z h
        exact ⟨ha, by rw [List.length_map]; exact hl, vs, _, hv, ha⟩
      · rw [na b h] at z; cases z
    · by_cases h : b = a
      · exact ⟨h, hk⟩
      · rw [na b h] at z; cases z

theorem walk_quiet {l : PySem.W.OpenLaw} {n k : Nat} {q : Program} {loose : List Str} {XP : (Str → Option Value) → Heap → Prop}
    {YP : World → Heap → Prop} {d : DefRec} {K : Params → PySem.W.Frag} {sp : PySem.W.Frag → Sp} {x : Str} (hn : l.most = some n)
    (hn2 : n ≤ sizeLine) (hdf : d.params.defaults = []) (hr : Room k callerA)
    (hY : ∀ (w : World) (h : Heap), YP w h → (K w.params).In h)
    (F : ∀ (w : World) (mg : Str → Option Value) (fa : Addr) (h : Heap), (K w.params).In h → h.Ns mainGlobals mg →
      mg d.name = some (.ref fa) → ∃ fd : FuncData, (∀ (s : Shared) (u : Value), BindsTo s fd ⟨[u], []⟩ [(x, u)]) ∧
        ∀ base : Heap, (K w.params).In base → base.Ns mainGlobals mg → FnG l.prog w (K w.params) mg base k fa fd [x] (sp (K w.params)))
    (hsp : ∀ (K : PySem.W.Frag) (H : Hp) (a : Addr) (ns : List Int), ns.length ≤ n → Only H → SqL K H a (ns.map V.int) →
      sp K [.ref a] H (fun v _ => v = .bl true) E0) :
    PySem.W.WalkO q loose XP YP l.row.toRowW d [] (fun f vs => PySem.call f vs) := by
  refine Att.attach_call hn hdf ?_
  intro w s₀ s₁ mg mb fa o pm cd doc a vs ns G Y ho hd hcd hmg hobj hints hlen hg
  have kx := hY w _ Y
  obtain ⟨fd, hb, hF⟩ := F w mg fa _ kx G.T.g hmg
  exact law_quiet kx G.T.g G.T.b G.T.builtins G.T.nolimit hg hobj hints (Nat.le_trans hlen hn2) hr hF hb
    fun H hO hS => hsp _ H a ns hlen hO hS
end Tw

set_option Elab.async false
set_option linter.all false
set_option maxRecDepth 100000
set_option maxHeartbeats 4000000
/-! data: what a value is, over the heap; the well at a -/
namespace Tw
open PySem PySem.Spec PyProof.Rows L2

/-- all that was known is known, but for what stands at a -/
def Kp (a : Addr) (H H' : Hp) : Prop := ∀ b o, b ≠ a → H b = some o → H' b = some o
/-- the well: a list of three ints -/
def We (a : Addr) (H : Hp) : Prop := ∃ x y z : Int, H a = some (.lst [.int x, .int y, .int z])
theorem Kp.refl (a : Addr) (H : Hp) : Kp a H H := fun _ _ _ h => h
theorem Kp.trans {a : Addr} {H H1 H2 : Hp} (x : Kp a H H1) (y : Kp a H1 H2) : Kp a H H2 := fun b o n h => y b o n (x b o n h)
theorem Kp.of {a : Addr} {H H' : Hp} (x : Same H H') : Kp a H H' := fun b o _ h => x b o h
theorem We.to {a : Addr} {H H' : Hp} (x : Same H H') (w : We a H) : We a H' := by
  obtain ⟨i, j, k, h⟩ := w
  exact ⟨i, j, k, x _ _ h⟩
theorem We.ne {a p : Addr} {H : Hp} (w : We a H) (h : H p = none) : p ≠ a := by
  obtain ⟨i, j, k, e⟩ := w
  exact fun z => by rw [z, e] at h; cases h
theorem We.some {a : Addr} {H : Hp} (w : We a H) : H a ≠ none := by
  obtain ⟨i, j, k, e⟩ := w
  rw [e]
  exact fun z => by cases z
theorem same_new {H : Hp} {p : Addr} {o : HO} (h : H p = none) : Same H (upd H p o) := fun b u e => by
  rw [upd_ne (ne_of_none e h)]; exact e
theorem kp_new {a : Addr} {H : Hp} {p : Addr} {o : HO} (h : H p = none) : Kp a H (upd H p o) := Kp.of (same_new h)
theorem we_new {a : Addr} {H : Hp} {p : Addr} {o : HO} (w : We a H) (h : H p = none) : We a (upd H p o) := w.to (same_new h)
theorem sz {n : Nat} (h : n ≤ 100000) : n ≤ sizeLine := Nat.le_trans h (by decide)

mutual
/-- the value is the datum; nothing of it is the well -/
inductive Da (a : Addr) (H : Hp) : V → PyData → Prop
  | non : Da a H .non .none
  | bl (b : Bool) : Da a H (.bl b) (.bool b)
  | int (i : Int) : Da a H (.int i) (.int i)
  | str (x : Str) : Da a H (.str x) (.str x)
  | lst {p : Addr} {xs : List V} {ds : List PyData} : p ≠ a → H p = some (.lst xs) → DaAll a H xs ds → Da a H (.ref p) (.list ds)
  | tup {p : Addr} {xs : List V} {ds : List PyData} : p ≠ a → H p = some (.tup xs) → DaAll a H xs ds → Da a H (.ref p) (.tuple ds)
  | dct {p : Addr} : p ≠ a → H p = some (.dK []) → Da a H (.ref p) (.dict [])
inductive DaAll (a : Addr) (H : Hp) : List V → List PyData → Prop
  | nil : DaAll a H [] []
  | cons {v : V} {vs : List V} {d : PyData} {ds : List PyData} : Da a H v d → DaAll a H vs ds → DaAll a H (v :: vs) (d :: ds)
end
section
variable {a : Addr} {H H' : Hp}
mutual
theorem Da.kp (k : Kp a H H') : ∀ {v : V} {d : PyData}, Da a H v d → Da a H' v d
  | _, _, .non => .non
  | _, _, .bl b => .bl b
  | _, _, .int i => .int i
  | _, _, .str x => .str x
  | _, _, .lst n h t => .lst n (k _ _ n h) (DaAll.kp k t)
  | _, _, .tup n h t => .tup n (k _ _ n h) (DaAll.kp k t)
  | _, _, .dct n h => .dct n (k _ _ n h)
theorem DaAll.kp (k : Kp a H H') : ∀ {vs : List V} {ds : List PyData}, DaAll a H vs ds → DaAll a H' vs ds
  | _, _, .nil => .nil
  | _, _, .cons h t => .cons (Da.kp k h) (DaAll.kp k t)
end
theorem Da.same (s : Same H H') {v : V} {d : PyData} (h : Da a H v d) : Da a H' v d := h.kp (Kp.of s)
theorem DaAll.same (s : Same H H') {v : List V} {d : List PyData} (h : DaAll a H v d) : DaAll a H' v d := h.kp (Kp.of s)
theorem DaAll.len : ∀ {vs : List V} {ds : List PyData}, DaAll a H vs ds → vs.length = ds.length
  | _, _, .nil => rfl
  | _, _, .cons _ t => congrArg Nat.succ t.len
theorem DaAll.get : ∀ {vs : List V} {ds : List PyData} {i : Nat} {v : V}, DaAll a H vs ds → vs[i]? = some v → ∃ d, ds[i]? = some d ∧ Da a H v d
  | _, _, _, _, .nil, h => by simp at h
  | _, _, 0, _, .cons h _, e => by simp at e; subst e; exact ⟨_, rfl, h⟩
  | _, _, i + 1, _, .cons _ t, e => by
    obtain ⟨d, h1, h2⟩ := t.get (i := i) (by simpa using e)
    exact ⟨d, by simpa using h1, h2⟩
theorem DaAll.append : ∀ {vs ws : List V} {ds es : List PyData}, DaAll a H vs ds → DaAll a H ws es → DaAll a H (vs ++ ws) (ds ++ es)
  | _, _, _, _, .nil, t => t
  | _, _, _, _, .cons h t, u => .cons h (t.append u)
theorem DaAll.drop : ∀ {vs : List V} {ds : List PyData} (n : Nat), DaAll a H vs ds → DaAll a H (vs.drop n) (ds.drop n)
  | _, _, 0, h => h
  | _, _, _ + 1, .nil => .nil
  | _, _, n + 1, .cons _ t => t.drop n
theorem DaAll.take : ∀ {vs : List V} {ds : List PyData} (n : Nat), DaAll a H vs ds → DaAll a H (vs.take n) (ds.take n)
  | _, _, 0, _ => .nil
  | _, _, _ + 1, .nil => .nil
  | _, _, n + 1, .cons h t => .cons h (t.take n)
theorem DaAll.rev : ∀ {vs : List V} {ds : List PyData}, DaAll a H vs ds → DaAll a H vs.reverse ds.reverse
  | _, _, .nil => .nil
  | _, _, .cons h t => by
    rw [List.reverse_cons, List.reverse_cons]
    exact t.rev.append (.cons h .nil)
/-- a slice of the values, of the data -/
def cutD (ds : List PyData) (lo hi : Option Int) : List PyData := (ds.drop (HT.sIx ds.length 0 lo)).take (HT.sIx ds.length ds.length hi - HT.sIx ds.length 0 lo)
theorem DaAll.cut {vs : List V} {ds : List PyData} (lo hi : Option Int) (h : DaAll a H vs ds) : DaAll a H (cutV vs lo hi) (cutD ds lo hi) := by
  unfold cutV cutD
  rw [h.len]
  exact (h.drop _).take _

mutual
theorem Da.dp {K : PySem.W.Frag} : ∀ {v : V} {d : PyData}, Da a H v d → d.canLay0 = true → Dp K H v d
  | _, _, .non, _ => .non
  | _, _, .bl b, _ => .bl b
  | _, _, .int i, _ => .int i
  | _, _, .str x, _ => .str x
  | _, _, .lst n h t, c => .lst (SqL.of h) (DaAll.dp t (by simpa [PyData.canLay0] using c))
  | _, _, .tup n h t, c => .tup (SqT.of h) (DaAll.dp t (by simpa [PyData.canLay0] using c))
  | _, _, .dct n h, c => by simp [PyData.canLay0] at c
theorem DaAll.dp {K : PySem.W.Frag} : ∀ {vs : List V} {ds : List PyData}, DaAll a H vs ds → PyData.canLayAll0 ds = true → DpAll K H vs ds
  | _, _, .nil, _ => .nil
  | _, _, .cons (d := d) (ds := ds) h t, c => by
    have c' : d.canLay0 = true ∧ PyData.canLayAll0 ds = true := by simpa [PyData.canLayAll0] using c
    exact .cons (Da.dp h c'.1) (DaAll.dp t c'.2)
end
end

/-! ### written data -/
mutual
def litOf : Expr → Option PyData
  | .Constant c _ _ => match c with
    | .none => some .none
    | .bool b => some (.bool b)
    | .int i => some (.int i)
    | .str x => some (.str x)
    | _ => none
  | .UnaryOp .USub (.Constant (.int i) _ _) _ => some (.int (-i))
  | .BinOp (.Constant (.int i) _ _) .Pow (.Constant (.int j) _ _) _ => if 0 ≤ j ∧ j ≤ 1000 ∧ i.natAbs < 1000 then some (.int (i ^ j.toNat)) else none
  | .Tuple es _ _ => match litsOf es with
    | some ds => if ds.length ≤ 1000 then some (.tuple ds) else none
    | none => none
  | .List es _ => match litsOf es with
    | some ds => if ds.length ≤ 1000 then some (.list ds) else none
    | none => none
  | .Dict [] [] _ => some (.dict [])
  | _ => none
def litsOf : List Expr → Option (List PyData)
  | [] => some []
  | e :: es => match litOf e, litsOf es with
    | some d, some ds => some (d :: ds)
    | _, _ => none
end
theorem _root_.L2.PE.weak {X : Cx} {e : Expr} {t t' : TE} (h : PE X e t) (k : ∀ σ H Q, t' σ H Q → t σ H Q) : PE X e t' := ⟨fun p s σ H Q I q => h.run p s σ H Q I (k σ H Q q)⟩
theorem _root_.L2.PA.weak {X : Cx} {e : List Expr} {t t' : TA} (h : PA X e t) (k : ∀ σ H Q, t' σ H Q → t σ H Q) : PA X e t' := ⟨fun o p s σ H Q I q => h.run o p s σ H Q I (k σ H Q q)⟩
/-- a new datum; a is any known place -/
def tLit (d : PyData) : TE := fun _ H Q => ∃ a, H a ≠ none ∧ ∀ v H', Same H H' → Da a H' v d → Q v H'
def tLits (ds : List PyData) : TA := fun _ H Q => ∃ a, H a ≠ none ∧ ∀ vs H', Same H H' → DaAll a H' vs ds → Q vs H'
theorem same_some {H H' : Hp} {a : Addr} (s : Same H H') (h : H a ≠ none) : H' a ≠ none := by
  cases e : H a with
  | none => exact absurd e h
  | some o => rw [s a o e]; exact fun z => by cases z
theorem new_ne {H : Hp} {a p : Addr} (h : H a ≠ none) (n : H p = none) : p ≠ a := fun z => h (by rw [← z]; exact n)
theorem star_lit {e : Expr} {es : List Expr} {env : Env} {d : PyData} (h : litOf e = some d) : starEach (e :: es) env = (false, eval e env) :: starEach es env := by
  cases e <;> first | rfl | (simp [litOf] at h)
section
variable {X : Cx}
mutual
theorem pe_lit : ∀ (e : Expr) {d : PyData}, litOf e = some d → PE X e (tLit d)
  | .Constant .none _ _, _, h => by
    have e := Option.some.inj h; subst e
    exact pe_non.weak fun σ H Q ⟨a, _, q⟩ => q _ _ (Same.refl H) .non
  | .Constant (.bool b) _ _, _, h => by
    have e := Option.some.inj h; subst e
    exact pe_bl.weak fun σ H Q ⟨a, _, q⟩ => q _ _ (Same.refl H) (.bl b)
  | .Constant (.int i) _ _, _, h => by
    have e := Option.some.inj h; subst e
    exact pe_int.weak fun σ H Q ⟨a, _, q⟩ => q _ _ (Same.refl H) (.int i)
  | .Constant (.str x) _ _, _, h => by
    have e := Option.some.inj h; subst e
    exact pe_str.weak fun σ H Q ⟨a, _, q⟩ => q _ _ (Same.refl H) (.str x)
  | .UnaryOp .USub (.Constant (.int i) _ _) _, _, h => by
    have e := Option.some.inj h; subst e
    exact (pe_un un_neg pe_int).weak fun σ H Q ⟨a, _, q⟩ => ⟨i, rfl, q _ _ (Same.refl H) (.int (-i))⟩
  | .BinOp (.Constant (.int i) _ _) .Pow (.Constant (.int j) _ _) _, d, h => by
    simp only [litOf] at h
    split at h
    · rename_i c
      have e := Option.some.inj h; subst e
      refine (pe_op op_pow pe_int pe_int).weak fun σ H Q ⟨a, _, q⟩ => ⟨i, j, rfl, rfl, ⟨c.1, by have := c.2.1; omega, by have := c.2.2; omega⟩, q _ _ (Same.refl H) (.int _)⟩
    · cases h
  | .Tuple es _ _, d, h => by
    simp only [litOf] at h
    split at h
    · rename_i ds hd
      split at h
      · rename_i c
        have e := Option.some.inj h; subst e
        refine (pe_tup (pa_lits es hd)).weak fun σ H Q ⟨a, n, q⟩ => ⟨a, n, fun vs H1 s1 d1 => ⟨sz (by rw [d1.len]; omega), fun p hp => ?_⟩⟩
        have s2 := same_new (o := .tup vs) hp
        exact q _ _ (s1.trans s2) (.tup (new_ne (same_some s1 n) hp) upd_same (d1.same s2))
      · cases h
    · cases h
  | .List es _, d, h => by
    simp only [litOf] at h
    split at h
    · rename_i ds hd
      split at h
      · rename_i c
        have e := Option.some.inj h; subst e
        refine (pe_lst (pa_lits es hd)).weak fun σ H Q ⟨a, n, q⟩ => ⟨a, n, fun vs H1 s1 d1 => ⟨sz (by rw [d1.len]; omega), fun p hp => ?_⟩⟩
        have s2 := same_new (o := .lst vs) hp
        exact q _ _ (s1.trans s2) (.lst (new_ne (same_some s1 n) hp) upd_same (d1.same s2))
      · cases h
    · cases h
  | .Dict [] [] _, d, h => by
    have e := Option.some.inj h; subst e
    refine pe_dnewK.weak fun σ H Q ⟨a, n, q⟩ => fun p hp => ?_
    exact q _ _ (same_new hp) (.dct (new_ne n hp) upd_same)
theorem pa_lits : ∀ (es : List Expr) {ds : List PyData}, litsOf es = some ds → PA X es (tLits ds)
  | [], _, h => by
    have e := Option.some.inj h; subst e
    exact pa_nil.weak fun σ H Q ⟨a, _, q⟩ => q _ _ (Same.refl H) .nil
  | e :: es, ds, h => by
    simp only [litsOf] at h
    split at h
    · rename_i d ds' hd hds
      have z := Option.some.inj h; subst z
      refine (pa_cons (pe_lit e hd) (pa_lits es hds) (star_lit hd)).weak fun σ H Q ⟨a, n, q⟩ => ⟨a, n, fun v H1 s1 d1 => ⟨a, same_some s1 n, fun vs H2 s2 d2 => ?_⟩⟩
      exact q _ _ (s1.trans s2) (.cons (d1.same s2) d2)
    · cases h
end
end
end Tw

set_option Elab.async false
set_option linter.all false
set_option maxRecDepth 100000
set_option maxHeartbeats 4000000
/-! rules: texts of data, a tuple beside the empty one, a tuple turned round, kinds of data -/
namespace Tw
open PySem PySem.Spec PyProof.Rows L2
section
variable {X : Cx}

/-- repr of a list, a tuple -/
def rShow (K : PySem.W.Frag) : List V → Hp → VK → Prop := fun xs H Q =>
  ∃ p d, xs = [.ref p] ∧ Dp K H (.ref p) d ∧ SeqAt.shaped d = true ∧ d.showable = true ∧ d.shown.length ≤ sizeLine ∧ Q (.str d.shown) H
theorem noDict_of {d : PyData} (h : SeqAt.shaped d = true) : d.hasDict = false := by
  have c := SeqAt.canLay_of_shaped h
  exact PyData.hasDict_of_canLay d c
theorem call_show (hq : Qt X.A) (hu : X.A.units + 70 < cLine) : CallR X (.builtin "repr") (rShow X.K) := by
  intro pins s σ H xs us Q I r h
  obtain ⟨p, d, rfl, hd, hs, hw, hz, q⟩ := h
  obtain ⟨u, rfl, rx⟩ := vals1 r
  obtain ⟨as, rd⟩ := Dp.reads I d _ u hd rx
  cases rx
  have dp := SeqAt.depth_of_shaped hs
  refine repr_of_reads' rd hw (fun z => ?_) hq (by omega) (fun _ _ e => e) (fun h' t k keep => ?_) hz
  · rw [noDict_of hs] at z; cases z
  · exact ⟨.str d.shown, H, I.kept keep, ⟨_, rfl⟩, q⟩

/-- a tuple beside an empty one -/
def rT0 (ne : Bool) (K : PySem.W.Frag) : R2 := fun x y H Q =>
  ∃ a b xs ys, x = .ref a ∧ y = .ref b ∧ SqT K H a xs ∧ SqT K H b ys ∧ ys = [] ∧ Q (.bl (if ne then !xs.isEmpty else xs.isEmpty)) H
theorem t0_val {xs : List V} {its its2 : List Value} (r1 : Vals xs its) (r2 : Vals [] its2) :
    ((List.range (min its.toArray.size its2.toArray.size)).all (fun _ => true) && its.toArray.size == its2.toArray.size) = xs.isEmpty := by
  cases r2
  cases r1 with
  | nil => rfl
  | cons _ _ => simp
theorem op_eqT0 (hu : X.A.units + 64 < cLine) : OpR X (compareOp .Eq) (rT0 false X.K) := by
  intro pins s σ H x y v u Q I rx ry h
  obtain ⟨a, b, xs, ys, rfl, rfl, ha, hb, rfl, q⟩ := h
  cases rx
  cases ry
  obtain ⟨its, r1, p1, _⟩ := I.tuple ha
  obtain ⟨its2, r2, p2, _⟩ := I.tuple hb
  refine SeqAt.RcAt.tuples (e := fun _ => true) p1 p2 (by omega) (fun j h1 h2 => ?_) _ _ _ _ ⟨.bl xs.isEmpty, H, I, ?_, q⟩
  · cases r2
    exact absurd h2 (by simp)
  · show Value.bool _ = Value.bool _
    rw [t0_val r1 r2]
theorem op_neT0 (hu : X.A.units + 64 < cLine) : OpR X (compareOp .NotEq) (rT0 true X.K) := by
  intro pins s σ H x y v u Q I rx ry h
  obtain ⟨a, b, xs, ys, rfl, rfl, ha, hb, rfl, q⟩ := h
  cases rx
  cases ry
  obtain ⟨its, r1, p1, _⟩ := I.tuple ha
  obtain ⟨its2, r2, p2, _⟩ := I.tuple hb
  refine SeqAt.RcNeAt.tuples (e := fun _ => true) p1 p2 (by omega) (fun j h1 h2 => ?_) _ _ _ _ ⟨.bl (!xs.isEmpty), H, I, ?_, q⟩
  · cases r2
    exact absurd h2 (by simp)
  · show Value.bool _ = Value.bool _
    rw [t0_val r1 r2]

/-! ### t[::-1] -/
theorem applied_rev {prog : Program} {w : World} {A : Around} {E : Value → Shared → Prop} {s : Shared} {sl : Addr} {vl vu vs : Value} {n : Nat} {Q : Int × Int × Nat → Shared → Prop}
    (hs : s.heap.IsSliceOf sl vl vu vs) (pl : IsPart vl none) (pu : IsPart vu none) (pt : IsPart vs (some (-1))) (h : Q ((n : Int) - 1, -1, n) s) :
    wpAny (model prog w) A (Builtin.Slice.sliceApplied (.ref sl) (pure (n : Int))) Q E s := by
  obtain ⟨ob, e1, e2, e3⟩ := id hs
  unfold Builtin.Slice.sliceApplied Builtin.Slice.sliceFields
  refine wpAny_bind (wpAny_bind (wpAny_field e1 e3 (x := vl) rfl ?_))
  refine wpAny_bind (wpAny_field e1 e3 (x := vu) rfl ?_)
  refine wpAny_bind (wpAny_field e1 e3 (x := vs) rfl (wpAny_pure ?_))
  refine wpAny_bind (HT.slicePart_ pt ?_)
  show wpAny _ _ (if ((-1 : Int) == 0) = true then _ else _) _ _ s
  rw [if_neg (by decide)]
  refine wpAny_bind (HT.slicePart_ pl ?_)
  refine wpAny_bind (HT.slicePart_ pu (wpAny_bind (wpAny_pure (wpAny_pure ?_))))
  have ep : Builtin.Slice.slicePlaces ((n : Int) - 1) (-1) (-1) = n := by
    unfold Builtin.Slice.slicePlaces
    have c1 : ¬ ((-1 : Int) > 0) := by decide
    simp only [c1, if_false]
    by_cases c : (n : Int) - 1 > -1
    · simp only [c, if_true]
      have : ((n : Int) - 1 - -1 - 1) / (- -1) = (n : Int) - 1 := by
        rw [show (- -1 : Int) = 1 by decide, Int.ediv_one]; omega
      omega
    · simp only [c, if_false]
      omega
  show Q (_, (-1 : Int), Builtin.Slice.slicePlaces ((n : Int) - 1) (-1) (-1)) s
  rw [ep]
  exact h
theorem fm_congr {α β : Type} {f g : α → Option β} : ∀ (l : List α), (∀ k ∈ l, f k = g k) → l.filterMap f = l.filterMap g
  | [], _ => rfl
  | k :: l, h => by
    rw [List.filterMap_cons, List.filterMap_cons, h k (by simp), fm_congr l fun j hj => h j (by simp [hj])]
theorem pick_rev (xs : Array Value) : ((List.range xs.size).filterMap fun (k : Nat) => xs[(((xs.size : Int) - 1) + (k : Int) * (-1)).toNat]?).toArray = xs.toList.reverse.toArray := by
  congr 1
  have e : (List.range xs.size).filterMap (fun (k : Nat) => xs[(((xs.size : Int) - 1) + (k : Int) * (-1)).toNat]?) = ((List.range xs.size).map fun k => xs.size - 1 - k).filterMap (xs[·]?) := by
    rw [List.filterMap_map]
    refine fm_congr _ fun k hk => ?_
    have hlt := List.mem_range.mp hk
    have e : (((xs.size : Int) - 1) + (k : Int) * (-1)).toNat = xs.size - 1 - k := by omega
    show xs[(((xs.size : Int) - 1) + (k : Int) * (-1)).toNat]? = xs[xs.size - 1 - k]?
    rw [e]
  rw [e, PySem.W.krv_range, List.filterMap_reverse, PySem.W.krv_all]
theorem getItem_rev {prog : Program} {w : World} {A : Around} {E : Value → Shared → Prop} {s : Shared} {t sl : Addr} {items : Array Value} {vl vu vs : Value} {Q : Value → Shared → Prop}
    (ht : IsTup s.heap t items) (hs : s.heap.IsSliceOf sl vl vu vs) (pl : IsPart vl none) (pu : IsPart vu none) (pt : IsPart vs (some (-1))) (hz : items.size ≤ sizeLine)
    (h : Q (.ref s.heap.objs.size) { s with heap := s.heap.push { cls := .type "tuple", data := .seq items.toList.reverse.toArray } }) :
    wpAny (model prog w) A (getItem (.ref t) (.ref sl)) Q E s := by
  have ty : s.TypeIs (.ref sl) "slice" := by obtain ⟨ob, e1, e2, e3⟩ := id hs; exact ⟨ob, e1, e2⟩
  have ok : sizeOk (.seq items.toList.reverse.toArray) := by
    show items.toList.reverse.toArray.size ≤ sizeLine
    simpa using hz
  unfold getItem
  (try with_reducible refine wpAny_holding ?_); (first | refine wpAny_bind (wpAny_pure ?_) | skip)
  refine wpAny_bind (wpAny_sequenceKey ht.typeIs (by decide) ?_)
  have sg := PyProof.Rows.slot_tuple_getitem
  refine wpAny_bind (wpAny_callSpecial?_slot (name := Str.ofString "__getitem__") ht.typeIs sg ?_)
  refine wpAny_call_entry sg ht.typeIs entry_tuple_getitem ?_ (args_tuple_getitem _ _)
  refine (show wpAny _ _ (Builtin.Tuple.tupleItemsOf (.ref t) >>= _) _ _ s from ?_)
  refine wpAny_bind (tupleItemsOf_ ht (wpAny_bind (wpAny_typeOf ty ?_)))
  rw [if_pos (by decide)]
  refine wpAny_bind (applied_rev hs pl pu pt ?_)
  have no : ¬ (((items.size : Int) - 1 == 0 && (-1 : Int) == 1 && items.size == items.size) = true) := by simp
  show wpAny _ _ (if ((items.size : Int) - 1 == 0 && (-1 : Int) == 1 && items.size == items.size) = true then _ else _) _ _ s
  rw [if_neg no, pick_rev]
  first
    | exact wpAny_bind (wpAny_bind (m := Builtin.Tuple.tupleExact _) (wpAny_newObj_type (wpAny_pure ⟨_, rfl, wpAny_pure h⟩) ok))
    | exact wpAny_bind (m := Builtin.Tuple.tupleExact _) (wpAny_newObj_type (wpAny_pure ⟨_, rfl, wpAny_pure h⟩) ok)
    | exact wpAny_bind (m := Builtin.Tuple.tupleExact _) (wpAny_newObj_type (wpAny_bind (wpAny_pure (wpAny_pure ⟨_, rfl, wpAny_pure h⟩))) ok)
    | exact wpAny_bind (wpAny_bind (m := Builtin.Tuple.tupleExact _) (wpAny_newObj_type (wpAny_pure (wpAny_pure ⟨_, rfl, wpAny_pure h⟩)) ok))
def tRevT (K : PySem.W.Frag) (te : TE) : TE := fun σ H Q => te σ H fun x H1 => ∃ a xs, x = .ref a ∧ SqT K H1 a xs ∧ ∀ p, H1 p = none → Q (.ref p) (upd H1 p (.tup xs.reverse))
theorem pe_revT {e : Expr} {te : TE} {k : Nat} {p1 p2 p3 pos : Pos} (he : PE X e te) :
    PE X (.Subscript e (.Slice none none (some (.UnaryOp .USub (.Constant (.int 1) k p1) p2)) p3) pos) (tRevT X.K te) := by
  refine ⟨fun pins s σ H Q I h => Subscript_ (thn (he.run pins s σ H _ I h) ?_)⟩
  rintro v s1 ⟨x, H1, I1, r1, a, xs, ex, hx, q⟩
  subst ex
  cases r1
  have step : PO X (some (.UnaryOp .USub (.Constant (.int 1) k p1) p2)) (tPart (tUn (rU fun i => .int (-i)) (tC (.int 1)))) := po_some (pe_un un_neg pe_int)
  refine wpAny_Slice (thn (po_none.run pins s1 σ H1 (fun o G => o = none ∧ G = H1) I1 ⟨rfl, rfl⟩) ?_)
  rintro vl s2 ⟨l, G2, I2, pl, rfl, rfl⟩
  refine thn (po_none.run pins s2 σ G2 (fun o G => o = none ∧ G = G2) I2 ⟨rfl, rfl⟩) ?_
  rintro vu s3 ⟨l3, G3, I3, pu, rfl, rfl⟩
  refine thn (step.run pins s3 σ G3 (fun o G => o = some (-1) ∧ G = G3) I3 ⟨1, rfl, -1, rfl, rfl, rfl⟩) ?_
  rintro vs s4 ⟨l4, G4, I4, pt, rfl, rfl⟩
  have I5 := I4.kept (h' := s4.heap.push { cls := .type "slice", data := .fields #[vl, vu, vs] }) (t' := s4.toks) fun b ob z => Heap.get?_push_of_some _ z
  obtain ⟨its, r, ht, hz⟩ := I5.tuple hx
  have hl := r.length
  refine tail_any (ops := [.ref a, .ref s4.heap.objs.size]) ht.typeIs PyProof.Rows.slot_tuple_getitem.lookup ?_ (by with_unfolding_all rfl)
  refine getItem_rev ht (Heap.IsSliceOf.new _ vl vu vs) pl pu pt (by rw [List.size_toArray]; omega) ?_
  have J := I5.laid (t' := s4.toks) (o := .tup xs.reverse) (fun b ob z => Heap.get?_push_of_some _ z) (Nat.le_refl _)
    ⟨by rw [List.length_reverse]; exact hz, its.reverse, Vals.reverse r, IsTup.new _ _⟩
  exact ⟨.ref _, _, J, rfl, q _ (I5.hok.fresh (Nat.le_refl _))⟩
end

/-! ### kinds -/
def kindOf : PyData → String
  | .none => "NoneType"
  | .bool _ => "bool"
  | .int _ => "int"
  | .str _ => "str"
  | .list _ => "list"
  | .tuple _ => "tuple"
  | .dict _ => "dict"
theorem Da.ty {a : Addr} {H : Hp} {K : PySem.W.Frag} : ∀ {v : V} {d : PyData}, Da a H v d → TyX K H v (.type (kindOf d))
  | _, _, .non => .base .non
  | _, _, .bl b => .base (.bl b)
  | _, _, .int i => .base (.int i)
  | _, _, .str x => .base (.str x)
  | _, _, .lst _ h _ => .base (.lst h)
  | _, _, .tup _ h _ => .base (.tup h)
  | _, _, .dct _ h => .base (.dK h)
end Tw

set_option Elab.async false
set_option linter.all false
set_option maxRecDepth 100000
set_option maxHeartbeats 4000000
/-! defs of the text, and calls of them by name -/
namespace Tw
open PySem PySem.Spec PyProof.Rows L2

/-- the def st stands at the name x -/
def Def (K : PySem.W.Frag) (mg : Str → Option Value) (x : Str) (st : Stmt) (ps : List Str) : Prop :=
  ∃ f fd, Fun K x x st f fd ∧ mg x = some (.ref f) ∧ Binds K fd ps []
/-- f is a def, fd -/
def FdAt (K : PySem.W.Frag) (f : Addr) (fd : FuncData) : Prop := ∃ oc od osl, K.lookup f = some ⟨oc, od, .func fd, osl⟩
theorem fdAt {K : PySem.W.Frag} {x q : Str} {st : Stmt} {f : Addr} {fd : FuncData} (F : Fun K x q st f fd) : FdAt K f fd := by
  obtain ⟨oc, od, _, _, _, _, _, _, osl, _, lk, _⟩ := F.ex
  exact ⟨oc, od, osl, lk⟩
/-- what stands at the name x keeps the promise -/
def Cal (P : Program) (w : World) (K : PySem.W.Frag) (mg : Str → Option Value) (base : Heap) (x : Str) (k : Nat) (ps : List Str) (sp : Sp) : Prop :=
  ∃ f fd, FnOk P w K mg base CX0 k f fd ps sp ∧ mg x = some (.ref f) ∧ PySem.W.keepIn K (.ref f) = true ∧ Binds K fd ps [] ∧ FdAt K f fd
def CalG (P : Program) (w : World) (K : PySem.W.Frag) (mg : Str → Option Value) (base : Heap) (x : Str) (k : Nat) (ps : List Str) (sp : Sp) : Prop :=
  ∃ f fd, FnG P w K mg base k f fd ps sp ∧ mg x = some (.ref f) ∧ PySem.W.keepIn K (.ref f) = true ∧ Binds K fd ps [] ∧ FdAt K f fd
section
variable {P : Program} {w : World} {K : PySem.W.Frag} {mg : Str → Option Value} {base : Heap} {x : Str} {st : Stmt} {ps N : List Str} {k : Nat} {sp : Sp}
theorem Def.ok (D : Def K mg x st ps) (S : FnScope N ps (defScope st)) (many : ∀ vs H Q E, sp vs H Q E → vs.length = ps.length)
    (hbody : ∀ (f : Addr) (cdv : Value) (A : Around) (out : List Env) (s : Shared) (H : Hp) (vs : List V) (Q : VK) (E : XK),
      Room k (A.deeper (envOfC x (defScope st) s.heap.objs.size f cdv)) → sp vs H Q E →
      ∃ t, PSs (cxOf CX0 P w K mg base N x (defScope st) f cdv A out s H E).nox (defBody st) t ∧
        t { nx := fun _ H' => Q .non H', rt := Q } (start N vs) H) : Cal P w K mg base x (k + 1) ps sp := by
  obtain ⟨f, fd, F, m, b⟩ := D
  exact ⟨f, fd, F.ok S many (fun cdv A out s H vs Q E hr hs => hbody f cdv A out s H vs Q E hr hs), m, F.kp, b, fdAt F⟩
theorem Def.okG (D : Def K mg x st ps) (S : FnScope N ps (defScope st)) (many : ∀ vs H Q E, sp vs H Q E → vs.length = ps.length)
    (hbody : ∀ (f : Addr) (cdv : Value) (A : Around) (out : List Env) (s : Shared) (H : Hp) (vs : List V) (Q : VK) (E : XK),
      Qt (A.deeper (envOfC x (defScope st) s.heap.objs.size f cdv)) →
      Room k (A.deeper (envOfC x (defScope st) s.heap.objs.size f cdv)) → sp vs H Q E →
      ∃ t, PSs (cxOf CX0 P w K mg base N x (defScope st) f cdv A out s H E).nox (defBody st) t ∧
        t { nx := fun _ H' => Q .non H', rt := Q } (start N vs) H) : CalG P w K mg base x (k + 1) ps sp := by
  obtain ⟨f, fd, F, m, b⟩ := D
  exact ⟨f, fd, Fun.okG F S many (fun cdv A out s H vs Q E hq hr hs => hbody f cdv A out s H vs Q E hq hr hs), m, F.kp, b, fdAt F⟩
theorem Cal.imp {sp' : Sp} (C : Cal P w K mg base x k ps sp) (h : ∀ vs H Q E, sp' vs H Q E → sp vs H Q E) : Cal P w K mg base x k ps sp' := by
  obtain ⟨f, fd, F, r⟩ := C
  exact ⟨f, fd, F.imp h, r⟩
theorem Cal.up {j : Nat} (C : Cal P w K mg base x j ps sp) (h : j ≤ k) : Cal P w K mg base x k ps sp := by
  obtain ⟨f, fd, F, r⟩ := C
  exact ⟨f, fd, F.mono h, r⟩
theorem def_mk {h : Heap} {f : Addr} {oc kV dc pm cd ct : Value} {od an : Option Addr} {sl : Array (Option Value)} (X : K.In h) (G : h.Ns mainGlobals mg)
    (a : PySem.W.nsIn K mainGlobals x = some (some (.ref f)))
    (l : K.lookup f = some ⟨oc, od, .func (PySem.W.fnOf x x (defArgs st) (defBody st) (defScope st) .none kV dc pm an cd ct), sl⟩)
    (c : PySem.W.codeIn K cd x = true) (kp : PySem.W.keepIn K (.ref f) = true)
    (hb : ∀ (kV doc pm : Value) (an : Option Addr) (cdv ct : Value) (us : List Value), us.length = ps.length →
      bindArgs (PySem.W.fnOf x x (defArgs st) (defBody st) (defScope st) .none kV doc pm an cdv ct) ⟨us, []⟩ = pure (ps.zip us)) : Def K mg x st ps := by
  have F := fun_mk (st := st) l c kp
  exact ⟨f, _, F, PySem.W.mg_of X G a, F.binds hb⟩
end
section
variable {X : Cx} {k j : Nat} {ps : List Str} {sp : Sp} {x : Str} {p pos : Pos} {e : Expr} {es : List Expr} {t : TA}
/-- f(e, ..) -/
theorem pe_cal (C : Cal X.prog X.w X.K X.mg X.base x j ps sp) (hr : Room k X.A) (hj : j ≤ k) (hg : Gl X x) (ha : PA X (e :: es) t) (hdb : (x == ("__debug__" : Str)) = false := by decide)
    (he : starEach (e :: es) X.env = (false, eval e X.env) :: starEach es X.env := by rfl) (hpl : (backTo pos (starEach es X.env)).any (·.1) = false := by rfl) :
    PE X (.Call (.Name x p) (e :: es) [] pos) (tCall sp [] E0 t) := by
  obtain ⟨f, fd, F, m, kp, b, _⟩ := C
  exact pe_call F (hr.mono hj) hg m kp b .nil pass0 ha hdb he hpl
theorem pe_calG (C : CalG X.prog X.w X.K X.mg X.base x j ps sp) (hq : Qt X.A) (hr : Room k X.A) (hj : j ≤ k) (hg : Gl X x) (ha : PA X (e :: es) t) (hdb : (x == ("__debug__" : Str)) = false := by decide)
    (he : starEach (e :: es) X.env = (false, eval e X.env) :: starEach es X.env := by rfl) (hpl : (backTo pos (starEach es X.env)).any (·.1) = false := by rfl) :
    PE X (.Call (.Name x p) (e :: es) [] pos) (tCall sp [] E0 t) := by
  obtain ⟨f, fd, F, m, kp, b, _⟩ := C
  exact pe_callG F hq (hr.mono hj) hg m kp b ha hdb he hpl

/-- f(k = e, ..), nothing by position: ks the names as they are written, g puts the values in the parameters' order -/
theorem pe_calK {st : Stmt} {ks : List Str} {kws : List Keyword} (g : List Value → List Value) (gV : List V → List V) (C : Cal X.prog X.w X.K X.mg X.base x j ps sp) (D : Def X.K X.mg x st ps) (hr : Room k X.A) (hj : j ≤ k) (hg : Gl X x)
    (hb : ∀ (kV doc pm : Value) (an : Option Addr) (cdv ct : Value) (us : List Value), us.length = ks.length →
      bindArgs (PySem.W.fnOf x x (defArgs st) (defBody st) (defScope st) .none kV doc pm an cdv ct) ⟨[], ks.zip us⟩ = pure (ps.zip (g us)))
    (hrel : ∀ {zs : List V} {us : List Value}, Vals zs us → us.length = ks.length → Vals (gV zs) (g us)) (ha : PK X kws t)
    (hn : ∀ zs H Q, t zs H Q → t zs H fun vs H' => vs.length = ks.length ∧ Q vs H')
    (hall : (backToKw pos (keywordEach kws X.env)).all (·.1.isSome) = true := by rfl) (hks : (backToKw pos (keywordEach kws X.env)).filterMap (·.1) = ks := by rfl)
    (hdb : (x == ("__debug__" : Str)) = false := by decide)
    (hpl : ((backTo pos (starEach [] X.env)).any (·.1) || (backToKw pos (keywordEach kws X.env)).any (·.1.isNone)) = false := by rfl) :
    PE X (.Call (.Name x p) [] kws pos) (fun σ H Q => t σ H fun zs H1 => sp (gV zs) H1 Q E0) := by
  obtain ⟨f, fd, F, m, kp, b, oc, od, osl, lk⟩ := C
  obtain ⟨f', fd', F', m', _⟩ := D
  have e1 : f' = f := by rw [m] at m'; injection m' with z; injection z with z; exact z.symm
  subst e1
  obtain ⟨oc', od', kV, doc, pm, an, cdv, ct, osl', e2, lk', _⟩ := F'.ex
  rw [lk] at lk'
  injection lk' with lk'
  injection lk' with _ _ e3 _
  injection e3 with e3
  subst e3
  refine ⟨fun pins s σ H Q I h => wpAny_Call_Name_kw (ld_glob I hg m ?_ hdb)⟩
  refine PySem.W.callWith_KW0 (h₀ := X.base) I.ok.mod.kin kp hall ?_ hpl
  refine thn (ha.run pos pins s σ H _ I (hn σ H _ h)) ?_
  rintro ws s2 ⟨zs, H2, I2, rz, hl, q2⟩
  rw [hks]
  refine ⟨I2.kIn, wpAny_call ?_⟩
  have hw : ws.length = ks.length := by rw [← Vals.length rz]; exact hl
  have bt : BindsTo s2 fd ⟨[], ks.zip ws⟩ (ps.zip (g ws)) := by
    rw [e2]
    exact .of_eq (hb kV doc pm an cdv ct ws hw)
  refine codeAny_mono (F.run X.A X.stack s2 H2 ⟨[], ks.zip ws⟩ (g ws) (gV zs) Q E0 (hr.mono hj) I2.env0 bt (hrel rz hw) q2) fun r s' hh => ?_
  cases r with
  | error z => exact False.elim hh
  | ok fl =>
    cases fl with
    | ret u => exact I2.after hh
    | next => exact False.elim hh
    | brk => exact False.elim hh
    | cont => exact False.elim hh
end

section
variable {P : Program} {w : World} {K : PySem.W.Frag} {mg : Str → Option Value} {st : Stmt} {x y : Str} {k : Nat} {sp : Sp} {fa : Addr}
theorem end_law (D : Def K mg x st [y]) (hfa : mg x = some (.ref fa)) (F : ∀ base : Heap, CalG P w K mg base x k [y] sp)
    (hb : ∀ (kV doc pm : Value) (an : Option Addr) (cdv ct u : Value), bindArgs (PySem.W.fnOf x x (defArgs st) (defBody st) (defScope st) .none kV doc pm an cdv ct) ⟨[u], []⟩ = pure [(y, u)]) :
    ∃ fd : FuncData, (∀ (s : Shared) (u : Value), BindsTo s fd ⟨[u], []⟩ [(y, u)]) ∧ ∀ base : Heap, K.In base → base.Ns mainGlobals mg → FnG P w K mg base k fa fd [y] sp := by
  obtain ⟨f, fd, F', m, _⟩ := D
  have e1 : f = fa := by rw [hfa] at m; injection m with z; injection z with z; exact z.symm
  subst e1
  obtain ⟨oc, od, kV, doc, pm, an, cdv, ct, osl, e2, lk, _⟩ := F'.ex
  refine ⟨fd, fun s u => by rw [e2]; exact .of_eq (hb kV doc pm an cdv ct u), fun base _ _ => ?_⟩
  obtain ⟨f2, fd2, G, m2, _, _, oc2, od2, osl2, lk2⟩ := F base
  have e3 : f2 = f := by rw [hfa] at m2; injection m2 with z; injection z with z; exact z.symm
  subst e3
  rw [lk] at lk2
  injection lk2 with lk2
  injection lk2 with _ _ e4 _
  injection e4 with e4
  rw [e4]
  exact G
end

theorem with_def {R : Prop} {K : PySem.W.Frag} {mg : Str → Option Value} {x : Str} {st : Stmt} {ps : List Str} {h : Heap} {f : Addr} {oc kV dc pm cd ct : Value} {od an : Option Addr} {sl : Array (Option Value)} (X : K.In h) (G : h.Ns mainGlobals mg)
    (a : PySem.W.nsIn K mainGlobals x = some (some (.ref f)))
    (l : K.lookup f = some ⟨oc, od, .func (PySem.W.fnOf x x (defArgs st) (defBody st) (defScope st) .none kV dc pm an cd ct), sl⟩)
    (c : PySem.W.codeIn K cd x = true) (kp : PySem.W.keepIn K (.ref f) = true)
    (hb : ∀ (kV doc pm : Value) (an : Option Addr) (cdv ct : Value) (us : List Value), us.length = ps.length →
      bindArgs (PySem.W.fnOf x x (defArgs st) (defBody st) (defScope st) .none kV doc pm an cdv ct) ⟨us, []⟩ = pure (ps.zip us))
    (go : Def K mg x st ps → R) : R := go (def_mk X G a l c kp hb)
theorem with_no {R : Prop} {K : PySem.W.Frag} {mg : Str → Option Value} {x : Str} {h : Heap} (X : K.In h) (G : h.Ns mainGlobals mg) (z : PySem.W.nsIn K mainGlobals x = some none) (go : mg x = none → R) : R := go (PySem.W.mg_none_of X G z)
end Tw

set_option Elab.async false
set_option linter.all false
set_option maxRecDepth 100000
set_option maxHeartbeats 4000000
/-! comprehensions over data, small facts -/
namespace Tw
open PySem PySem.Spec PyProof.Rows L2
theorem same_upd {H H' : Hp} {D : Addr} {o : HO} (s : Same H H') (n : H D = none) : Same H (upd H' D o) := fun b u e => by
  rw [upd_ne (ne_of_none e n)]; exact s b u e
theorem kp_upd {a : Addr} {H H' : Hp} {D : Addr} {o : HO} (s : Kp a H H') (n : H D = none) : Kp a H (upd H' D o) := fun b u ne e => by
  rw [upd_ne (ne_of_none e n)]; exact s b u ne e
theorem lt_line {n : Nat} (h : n < 100000) : n < sizeLine := Nat.lt_of_lt_of_le h (by decide)
theorem take_map {α β : Type} (f : α → β) {ds : List α} {i : Nat} {d : α} (h : ds[i]? = some d) : (ds.take i).map f ++ [f d] = (ds.take (i + 1)).map f := by
  rw [List.take_add_one, h, List.map_append]; rfl
section
variable {K : PySem.W.Frag} {te : TE} {i j : Nat} {elt : TE} {vs : List Nat} {σ : L2.St} {H : Hp} {Q : VK} {a p : Addr} {xs : List V} {ds : List PyData}
/-- [f(d) for d in t], t a tuple of data -/
theorem lc_mapT (f : PyData → V) (hv : σ[i]? = some (some (.ref p))) (ht : H p = some (.tup xs)) (hd : DaAll a H xs ds) (hn : xs.length < 100000)
    (hw : ∀ x, wipe ((wipe σ vs).set j (some x)) vs = wipe σ vs)
    (he : ∀ x d H1, d ∈ ds → Same H H1 → Da a H1 x d → ∀ R : VK, (∀ H2, Same H1 H2 → R (f d) H2) → elt ((wipe σ vs).set j (some x)) H1 R)
    (q : ∀ D H', Same H H' → H D = none → H' D = some (.lst (ds.map f)) → Q (.ref D) H') : tLc (iTup K (tVar i)) (gName j) tYes elt vs σ H Q := by
  refine ⟨.ref p, hv, p, rfl, ⟨xs, SqT.of ht⟩, fun D hD => ?_⟩
  refine lc_tup (xs := xs) (fun m H' => Same H H' ∧ H' D = some (.lst ((ds.take m).map f))) ⟨same_new hD, upd_same⟩ (fun m H' _ h => SqT.of (h.1 _ _ ht)) (fun m x H1 hx h => ?_) (fun H' h => ?_)
  · obtain ⟨h1, h2⟩ := h
    obtain ⟨d, e1, e2⟩ := hd.get hx
    have hm : m < xs.length := (List.getElem?_eq_some_iff.mp hx).1
    refine ⟨hw x, ?_⟩
    unfold tYes
    simp only [if_true]
    refine he x d H1 (List.mem_of_getElem? e1) h1 (e2.same h1) _ fun H2 s2 => ⟨(ds.take m).map f, s2 _ _ h2, ?_, same_upd (h1.trans s2) hD, ?_⟩
    · rw [List.length_map, List.length_take]; exact lt_line (by omega)
    · rw [upd_same, take_map f e1]
  · obtain ⟨h1, h2⟩ := h
    rw [hd.len, List.take_length] at h2
    exact q D H' h1 hD h2
theorem lc_mapL (f : PyData → V) (hv : σ[i]? = some (some (.ref p))) (ht : H p = some (.lst xs)) (hd : DaAll a H xs ds) (hn : xs.length < 100000)
    (hw : ∀ x, wipe ((wipe σ vs).set j (some x)) vs = wipe σ vs)
    (he : ∀ x d H1, d ∈ ds → Same H H1 → Da a H1 x d → ∀ R : VK, (∀ H2, Same H1 H2 → R (f d) H2) → elt ((wipe σ vs).set j (some x)) H1 R)
    (q : ∀ D H', Same H H' → H D = none → H' D = some (.lst (ds.map f)) → Q (.ref D) H') : tLc (iList K (tVar i)) (gName j) tYes elt vs σ H Q := by
  refine ⟨.ref p, hv, p, rfl, ⟨xs, SqL.of ht⟩, fun D hD => ?_⟩
  refine lc_list (xs := xs) (fun m H' => Same H H' ∧ H' D = some (.lst ((ds.take m).map f))) ⟨same_new hD, upd_same⟩ (fun m H' _ h => SqL.of (h.1 _ _ ht)) (fun m x H1 hx h => ?_) (fun H' h => ?_)
  · obtain ⟨h1, h2⟩ := h
    obtain ⟨d, e1, e2⟩ := hd.get hx
    have hm : m < xs.length := (List.getElem?_eq_some_iff.mp hx).1
    refine ⟨hw x, ?_⟩
    unfold tYes
    simp only [if_true]
    refine he x d H1 (List.mem_of_getElem? e1) h1 (e2.same h1) _ fun H2 s2 => ⟨(ds.take m).map f, s2 _ _ h2, ?_, same_upd (h1.trans s2) hD, ?_⟩
    · rw [List.length_map, List.length_take]; exact lt_line (by omega)
    · rw [upd_same, take_map f e1]
  · obtain ⟨h1, h2⟩ := h
    rw [hd.len, List.take_length] at h2
    exact q D H' h1 hD h2
end

/-! ### kinds, tests of kinds -/
def isIntD : PyData → Bool
  | .int _ => true
  | .bool _ => true
  | _ => false
def isBoolD : PyData → Bool
  | .bool _ => true
  | _ => false
def isTupD : PyData → Bool
  | .tuple _ => true
  | _ => false
theorem isi_int {K : PySem.W.Frag} (d : PyData) : PySem.W.kitOne K (.type (kindOf d)) (.type "int") = some (isIntD d) := by
  cases d with
  | none => exact kit_ty (show kitB "NoneType" "int" = some false by decide +kernel)
  | bool _ => exact kit_ty (show kitB "bool" "int" = some true by decide +kernel)
  | int _ => exact kit_ty (show kitB "int" "int" = some true by decide +kernel)
  | str _ => exact kit_ty (show kitB "str" "int" = some false by decide +kernel)
  | list _ => exact kit_ty (show kitB "list" "int" = some false by decide +kernel)
  | tuple _ => exact kit_ty (show kitB "tuple" "int" = some false by decide +kernel)
  | dict _ => exact kit_ty (show kitB "dict" "int" = some false by decide +kernel)
theorem isi_bool {K : PySem.W.Frag} (d : PyData) : PySem.W.kitOne K (.type (kindOf d)) (.type "bool") = some (isBoolD d) := by
  cases d with
  | none => exact kit_ty (show kitB "NoneType" "bool" = some false by decide +kernel)
  | bool _ => exact kit_ty (show kitB "bool" "bool" = some true by decide +kernel)
  | int _ => exact kit_ty (show kitB "int" "bool" = some false by decide +kernel)
  | str _ => exact kit_ty (show kitB "str" "bool" = some false by decide +kernel)
  | list _ => exact kit_ty (show kitB "list" "bool" = some false by decide +kernel)
  | tuple _ => exact kit_ty (show kitB "tuple" "bool" = some false by decide +kernel)
  | dict _ => exact kit_ty (show kitB "dict" "bool" = some false by decide +kernel)
theorem isi_tup {K : PySem.W.Frag} (d : PyData) : PySem.W.kitOne K (.type (kindOf d)) (.type "tuple") = some (isTupD d) := by
  cases d with
  | none => exact kit_ty (show kitB "NoneType" "tuple" = some false by decide +kernel)
  | bool _ => exact kit_ty (show kitB "bool" "tuple" = some false by decide +kernel)
  | int _ => exact kit_ty (show kitB "int" "tuple" = some false by decide +kernel)
  | str _ => exact kit_ty (show kitB "str" "tuple" = some false by decide +kernel)
  | list _ => exact kit_ty (show kitB "list" "tuple" = some false by decide +kernel)
  | tuple _ => exact kit_ty (show kitB "tuple" "tuple" = some true by decide +kernel)
  | dict _ => exact kit_ty (show kitB "dict" "tuple" = some false by decide +kernel)
/-- isinstance(x, T) of a datum -/
theorem isi {K : PySem.W.Frag} {a : Addr} {H : Hp} {Q : VK} {v : V} {d : PyData} {T : String} {b : Bool} (h : Da a H v d) (k : PySem.W.kitOne K (.type (kindOf d)) (.type T) = some b) (q : Q (.bl b) H) :
    rIsi K [v, .ty T] H Q := ⟨v, .ty T, .type (kindOf d), .type T, b, rfl, .ty T, h.ty, k, q⟩

/-! ### how deep, how wide -/
mutual
def dep : PyData → Nat
  | .list ds => dep1 ds + 1
  | .tuple ds => dep1 ds + 1
  | _ => 0
def dep1 : List PyData → Nat
  | [] => 0
  | d :: ds => max (dep d) (dep1 ds)
end
mutual
def wid : PyData → Nat
  | .list ds => max ds.length (wid1 ds)
  | .tuple ds => max ds.length (wid1 ds)
  | _ => 0
def wid1 : List PyData → Nat
  | [] => 0
  | d :: ds => max (wid d) (wid1 ds)
end
theorem dep1_mem {d : PyData} : ∀ {ds : List PyData}, d ∈ ds → dep d ≤ dep1 ds
  | e :: ds, h => by
    rw [dep1]
    rcases List.mem_cons.mp h with rfl | h
    · exact Nat.le_max_left _ _
    · exact Nat.le_trans (dep1_mem h) (Nat.le_max_right _ _)
theorem wid1_mem {d : PyData} : ∀ {ds : List PyData}, d ∈ ds → wid d ≤ wid1 ds
  | e :: ds, h => by
    rw [wid1]
    rcases List.mem_cons.mp h with rfl | h
    · exact Nat.le_max_left _ _
    · exact Nat.le_trans (wid1_mem h) (Nat.le_max_right _ _)
theorem dep1_le {n : Nat} : ∀ {ds : List PyData}, (∀ d ∈ ds, dep d ≤ n) → dep1 ds ≤ n
  | [], _ => Nat.zero_le _
  | d :: ds, h => by
    rw [dep1]
    exact Nat.max_le.mpr ⟨h d (by simp), dep1_le fun e he => h e (by simp [he])⟩
theorem wid1_le {n : Nat} : ∀ {ds : List PyData}, (∀ d ∈ ds, wid d ≤ n) → wid1 ds ≤ n
  | [], _ => Nat.zero_le _
  | d :: ds, h => by
    rw [wid1]
    exact Nat.max_le.mpr ⟨h d (by simp), wid1_le fun e he => h e (by simp [he])⟩
/-- at most n deep, m wide -/
def Sm (n m : Nat) (d : PyData) : Prop := dep d ≤ n ∧ wid d ≤ m
theorem Sm.up {n m n' m' : Nat} {d : PyData} (h : Sm n m d) (h1 : n ≤ n') (h2 : m ≤ m') : Sm n' m' d := ⟨Nat.le_trans h.1 h1, Nat.le_trans h.2 h2⟩
theorem sm_tup {n m : Nat} {ds : List PyData} (hl : ds.length ≤ m) (h : ∀ d ∈ ds, Sm n m d) : Sm (n + 1) m (.tuple ds) :=
  ⟨by rw [dep]; exact Nat.succ_le_succ (dep1_le fun d hd => (h d hd).1), by rw [wid]; exact Nat.max_le.mpr ⟨hl, wid1_le fun d hd => (h d hd).2⟩⟩
theorem sm_lst {n m : Nat} {ds : List PyData} (hl : ds.length ≤ m) (h : ∀ d ∈ ds, Sm n m d) : Sm (n + 1) m (.list ds) :=
  ⟨by rw [dep]; exact Nat.succ_le_succ (dep1_le fun d hd => (h d hd).1), by rw [wid]; exact Nat.max_le.mpr ⟨hl, wid1_le fun d hd => (h d hd).2⟩⟩
theorem Sm.len {n m : Nat} {ds : List PyData} (h : Sm n m (.tuple ds)) : ds.length ≤ m := by
  have := h.2
  rw [wid] at this
  exact Nat.le_trans (Nat.le_max_left _ _) this
theorem Sm.dep1 {n m : Nat} {ds : List PyData} (h : Sm n m (.tuple ds)) : 1 ≤ n := by
  have := h.1
  rw [dep] at this
  omega
theorem Sm.mem {n m : Nat} {ds : List PyData} {d : PyData} (h : Sm n m (.tuple ds)) (hd : d ∈ ds) : Sm (n - 1) m d := by
  obtain ⟨h1, h2⟩ := h
  rw [dep] at h1
  rw [wid] at h2
  have := dep1_mem hd
  exact ⟨by omega, Nat.le_trans (wid1_mem hd) (Nat.le_trans (Nat.le_max_right _ _) h2)⟩
def smB (n m : Nat) (d : PyData) : Bool := decide (dep d ≤ n) && decide (wid d ≤ m)
theorem sm_of {n m : Nat} {d : PyData} (h : smB n m d = true) : Sm n m d := by
  unfold smB at h
  simpa [Sm] using h

/-- a loop over a range, its body already read -/
theorem for_rng {lo : Int} {n : Nat} {B : (L2.St → Hp → Prop) → V → L2.St → Hp → Prop} {nx : L2.St → Hp → Prop} {σ : L2.St} {H : Hp} (Pv : Nat → L2.St → Hp → Prop) (h0 : Pv 0 σ H)
    (hs : ∀ (i : Nat) σ' H', i < n → Pv i σ' H' → B (Pv (i + 1)) (.int (lo + i)) σ' H') (hd : ∀ σ' H', Pv n σ' H' → nx σ' H') :
    ∃ W : Nat → Nat → L2.St → Hp → Prop, (∃ m, W 0 m σ H) ∧ ∀ i m σ H, W i m σ H →
      ((Itr lo n).stop i H ∧ nx σ H) ∨ ((Itr lo n).go i H ∧ ∃ N : L2.St → Hp → Prop, (∀ σ' H', N σ' H' → ∃ m', m' < m ∧ W (i + 1) m' σ' H') ∧ ∀ x H', (Itr lo n).yld i H x H' → B N x σ H') := by
  refine ⟨fun i m σ H => m = n - i ∧ i ≤ n ∧ Pv i σ H, ⟨n, by simp, Nat.zero_le _, h0⟩, ?_⟩
  rintro i m σ' H' ⟨rfl, hi, p⟩
  by_cases c : i < n
  · refine Or.inr ⟨c, Pv (i + 1), fun σ2 H2 p2 => ⟨n - (i + 1), by omega, rfl, c, p2⟩, fun x H2 y => ?_⟩
    obtain ⟨e1, e2⟩ := y
    subst e1 e2
    exact hs i σ' _ c p
  · have e : i = n := by omega
    subst e
    exact Or.inl ⟨by show i ≤ i; omega, hd σ' H' p⟩

/-- a loop over a list, its body already read -/
theorem for_lst {K : PySem.W.Frag} {a : Addr} {xs : List V} {B : (L2.St → Hp → Prop) → V → L2.St → Hp → Prop} {nx : L2.St → Hp → Prop} {σ : L2.St} {H : Hp} (Pv : Nat → L2.St → Hp → Prop) (h0 : Pv 0 σ H)
    (hl : ∀ i σ' H', i ≤ xs.length → Pv i σ' H' → SqL K H' a xs)
    (hs : ∀ (i : Nat) x σ' H', xs[i]? = some x → Pv i σ' H' → B (Pv (i + 1)) x σ' H') (hd : ∀ σ' H', Pv xs.length σ' H' → nx σ' H') :
    ∃ W : Nat → Nat → L2.St → Hp → Prop, (∃ m, W 0 m σ H) ∧ ∀ i m σ H, W i m σ H →
      ((Itl K a).stop i H ∧ nx σ H) ∨ ((Itl K a).go i H ∧ ∃ N : L2.St → Hp → Prop, (∀ σ' H', N σ' H' → ∃ m', m' < m ∧ W (i + 1) m' σ' H') ∧ ∀ x H', (Itl K a).yld i H x H' → B N x σ H') := by
  refine ⟨fun i m σ H => m = xs.length - i ∧ i ≤ xs.length ∧ Pv i σ H, ⟨xs.length, by simp, Nat.zero_le _, h0⟩, ?_⟩
  rintro i m σ' H' ⟨rfl, hi, p⟩
  have ql := hl i σ' H' hi p
  by_cases c : i < xs.length
  · refine Or.inr ⟨⟨xs, xs[i], ql, by simp [c]⟩, Pv (i + 1), fun σ2 H2 p2 => ⟨xs.length - (i + 1), by omega, rfl, c, p2⟩, fun x H2 y => ?_⟩
    obtain ⟨e1, e2⟩ := y
    subst e1
    exact hs i x σ' _ (e2 xs ql) p
  · have e : i = xs.length := by omega
    subst e
    exact Or.inl ⟨⟨xs, ql, Nat.le_refl _⟩, hd σ' H' p⟩

theorem same_kp {a : Addr} {H H1 H2 : Hp} (s : Same H H1) (n : H a = none) (k : Kp a H1 H2) : Same H H2 := fun b o e => k b o (ne_of_none e n) (s b o e)
/-- [f(i) for i in range(n)] -/
theorem lc_rng {wi : TI} {j : Nat} {elt : TE} {vs : List Nat} {σ : L2.St} {H : Hp} {Q : VK} {n : Nat} (f : Nat → V) (hi : ∀ R : It → Hp → Prop, R (Itr 0 n) H → wi σ H R) (hn : n < 100000)
    (hw : ∀ x, wipe ((wipe σ vs).set j (some x)) vs = wipe σ vs)
    (he : ∀ (i : Nat) H1, i < n → Same H H1 → ∀ R : VK, (∀ H2, Same H1 H2 → R (f i) H2) → elt ((wipe σ vs).set j (some (.int (0 + (i : Int))))) H1 R)
    (q : ∀ D H', Same H H' → H D = none → H' D = some (.lst ((List.range n).map f)) → Q (.ref D) H') : tLc wi (gName j) tYes elt vs σ H Q := by
  refine hi _ fun D hD => ?_
  refine lc_range (lo := 0) (n := n) (fun m H' => Same H H' ∧ H' D = some (.lst ((List.range m).map f))) ⟨same_new hD, upd_same⟩ (fun m H1 hm h => ?_) (fun H' h => q D H' h.1 hD h.2)
  obtain ⟨h1, h2⟩ := h
  refine ⟨hw _, ?_⟩
  unfold tYes
  simp only [if_true]
  refine he m H1 hm h1 _ fun H2 s2 => ⟨(List.range m).map f, s2 _ _ h2, ?_, same_upd (h1.trans s2) hD, ?_⟩
  · rw [List.length_map, List.length_range]; exact lt_line (by omega)
  · rw [upd_same, List.range_succ, List.map_append]; rfl
end Tw

set_option Elab.async false
set_option linter.all false
set_option maxRecDepth 100000
set_option maxHeartbeats 4000000
/-! numbers that may be True or False -/
namespace Tw
open PySem PySem.Spec PyProof.Rows L2
/-- a number, True and False among them -/
inductive Nu : V → Int → Prop
  | int (i : Int) : Nu (.int i) i
  | bl (b : Bool) : Nu (.bl b) (if b = true then 1 else 0)
theorem nu_of {a : Addr} {H : Hp} {v : V} {d : PyData} (h : Da a H v d) (t : isIntD d = true) : ∃ i, Nu v i := by
  cases h with
  | int i => exact ⟨i, .int i⟩
  | bl b => exact ⟨_, .bl b⟩
  | _ => cases t
def rNl (f : Int → Int → Int) : R2 := fun x y H Q => ∃ i j, Nu x i ∧ y = .int j ∧ Q (.int (f i j)) H
def rNr (f : Int → Int → Int) : R2 := fun x y H Q => ∃ i j, x = .int i ∧ Nu y j ∧ Q (.int (f i j)) H
section
variable {X : Cx}
theorem op_addNl : OpR X (binaryOp .Add) (rNl fun i j => i + j) := by
  intro pins s σ H x y v u Q I rx ry h
  obtain ⟨i, j, nx, rfl, q⟩ := h
  obtain ⟨t, rfl⟩ := ry
  cases nx with
  | int _ => obtain ⟨t', rfl⟩ := rx; exact add_int ⟨.int _, H, I.tok _, ⟨_, rfl⟩, q⟩
  | bl b => cases rx; exact IntBool.add_bool_int ⟨.int _, H, I.tok _, ⟨_, rfl⟩, q⟩
theorem op_subNl : OpR X (binaryOp .Sub) (rNl fun i j => i - j) := by
  intro pins s σ H x y v u Q I rx ry h
  obtain ⟨i, j, nx, rfl, q⟩ := h
  obtain ⟨t, rfl⟩ := ry
  cases nx with
  | int _ => obtain ⟨t', rfl⟩ := rx; exact sub_int ⟨.int _, H, I.tok _, ⟨_, rfl⟩, q⟩
  | bl b => cases rx; exact IntBool.sub_bool_int ⟨.int _, H, I.tok _, ⟨_, rfl⟩, q⟩
theorem op_subNr : OpR X (binaryOp .Sub) (rNr fun i j => i - j) := by
  intro pins s σ H x y v u Q I rx ry h
  obtain ⟨i, j, rfl, ny, q⟩ := h
  obtain ⟨t, rfl⟩ := rx
  cases ny with
  | int _ => obtain ⟨t', rfl⟩ := ry; exact sub_int ⟨.int _, H, I.tok _, ⟨_, rfl⟩, q⟩
  | bl b => cases ry; exact IntBool.sub_int_bool ⟨.int _, H, I.tok _, ⟨_, rfl⟩, q⟩
/-- a small number times such a one -/
theorem op_mulNr : OpR X (binaryOp .Mult) (fun x y H Q => ∃ i j, x = .int i ∧ (-(2 ^ 64) < i ∧ i < 2 ^ 64) ∧ Nu y j ∧ Q (.int (i * j)) H) := by
  intro pins s σ H x y v u Q I rx ry h
  obtain ⟨i, j, rfl, ⟨b1, b2⟩, ny, q⟩ := h
  obtain ⟨t, rfl⟩ := rx
  cases ny with
  | int _ => obtain ⟨t', rfl⟩ := ry; exact mul_int ⟨.int _, H, I.tok _, ⟨_, rfl⟩, q⟩ (.of_left (intBits_le_64 b1 b2))
  | bl b => cases ry; exact IntBool.mul_int_bool ⟨.int _, H, I.tok _, ⟨_, rfl⟩, q⟩
/-- == of such a number and an int -/
theorem op_eqNl : OpR X (compareOp .Eq) (fun x y H Q => ∃ i j, Nu x i ∧ y = .int j ∧ Q (.bl (i == j)) H) := by
  intro pins s σ H x y v u Q I rx ry h
  obtain ⟨i, j, nx, rfl, q⟩ := h
  obtain ⟨t, rfl⟩ := ry
  cases nx with
  | int _ => obtain ⟨t', rfl⟩ := rx; exact eq_int ⟨.bl _, H, I, rfl, q⟩
  | bl b => cases rx; exact EqBoolInt.eq_bool_int ⟨.bl _, H, I, rfl, q⟩
end
end Tw

set_option Elab.async false
set_option linter.all false
set_option maxRecDepth 100000
set_option maxHeartbeats 4000000
/-! slices, sums, turned tuples of data -/
namespace Tw
open PySem PySem.Spec PyProof.Rows L2
section
variable {K : PySem.W.Frag} {a : Addr} {H : Hp} {v u : V} {ds es : List PyData} {Q : VK}
theorem da_tup (h : Da a H v (.tuple ds)) : ∃ p xs, v = .ref p ∧ p ≠ a ∧ H p = some (.tup xs) ∧ DaAll a H xs ds := by
  cases h with
  | tup n e r => exact ⟨_, _, rfl, n, e, r⟩
theorem cut_whole {ds : List PyData} {lo hi : Option Int} (h : HT.sIx ds.length 0 lo = 0 ∧ HT.sIx ds.length ds.length hi = ds.length) : cutD ds lo hi = ds := by
  unfold cutD
  rw [h.1, h.2, List.drop_zero, Nat.sub_zero, List.take_length]
theorem sl_da {lo hi : Option Int} (w : H a ≠ none) (h : Da a H v (.tuple ds)) (q : ∀ v' H', Same H H' → Da a H' v' (.tuple (cutD ds lo hi)) → Q v' H') : rSlA K v lo hi H Q := by
  obtain ⟨p, xs, rfl, np, hp, hx⟩ := da_tup h
  refine ⟨p, xs, rfl, SqT.of hp, fun c => ?_, fun c t nt => ?_⟩
  · rw [hx.len] at c
    exact q _ _ (Same.refl H) (by rw [cut_whole c]; exact h)
  · have s := same_new (o := .tup (cutV xs lo hi)) nt
    exact q _ _ s (.tup (new_ne w nt) upd_same ((hx.cut lo hi).same s))
theorem cat_da (w : H a ≠ none) (h : Da a H v (.tuple ds)) (g : Da a H u (.tuple es)) (hz : ds.length + es.length ≤ 100000) (q : ∀ v' H', Same H H' → Da a H' v' (.tuple (ds ++ es)) → Q v' H') : rCatA K v u H Q := by
  obtain ⟨p, xs, rfl, np, hp, hx⟩ := da_tup h
  obtain ⟨r, ys, rfl, nr, hr, hy⟩ := da_tup g
  refine ⟨p, r, xs, ys, rfl, rfl, SqT.of hp, SqT.of hr, sz (by rw [hx.len, hy.len]; exact hz), fun c => ?_, fun c c2 => ?_, fun c c2 t nt => ?_⟩
  · subst c
    cases hx
    exact q _ _ (Same.refl H) g
  · subst c2
    cases hy
    exact q _ _ (Same.refl H) (by rw [List.append_nil]; exact h)
  · have s := same_new (o := .tup (xs ++ ys)) nt
    exact q _ _ s (.tup (new_ne w nt) upd_same ((hx.append hy).same s))
theorem rev_da (w : H a ≠ none) (h : Da a H v (.tuple ds)) (q : ∀ v' H', Same H H' → Da a H' v' (.tuple ds.reverse) → Q v' H') :
    ∃ p xs, v = .ref p ∧ SqT K H p xs ∧ ∀ t, H t = none → Q (.ref t) (upd H t (.tup xs.reverse)) := by
  obtain ⟨p, xs, rfl, np, hp, hx⟩ := da_tup h
  refine ⟨p, xs, rfl, SqT.of hp, fun t nt => ?_⟩
  have s := same_new (o := .tup xs.reverse) nt
  exact q _ _ s (.tup (new_ne w nt) upd_same (hx.rev.same s))
theorem list_da (w : H a ≠ none) (h : Da a H v (.tuple ds)) (q : ∀ v' H', Same H H' → Da a H' v' (.list ds) → Q v' H') :
    ∃ p ys, [v] = [.ref p] ∧ (SqL K H p ys ∨ SqT K H p ys) ∧ ∀ l, H l = none → Q (.ref l) (upd H l (.lst ys)) := by
  obtain ⟨p, xs, rfl, np, hp, hx⟩ := da_tup h
  refine ⟨p, xs, rfl, .inr (SqT.of hp), fun t nt => ?_⟩
  have s := same_new (o := .lst xs) nt
  exact q _ _ s (.lst (new_ne w nt) upd_same (hx.same s))
/-- a written tuple of values that are data -/
theorem tup_da {vs : List V} (w : H a ≠ none) (h : DaAll a H vs ds) (hz : ds.length ≤ 100000) (q : ∀ v' H', Same H H' → Da a H' v' (.tuple ds) → Q v' H') :
    vs.length ≤ sizeLine ∧ ∀ p, H p = none → Q (.ref p) (upd H p (.tup vs)) := by
  refine ⟨sz (by rw [h.len]; exact hz), fun t nt => ?_⟩
  have s := same_new (o := .tup vs) nt
  exact q _ _ s (.tup (new_ne w nt) upd_same (h.same s))
theorem newT {vs : List V} {p : Addr} (w : H a ≠ none) (h : DaAll a H vs ds) (n : H p = none) : Same H (upd H p (.tup vs)) ∧ Da a (upd H p (.tup vs)) (.ref p) (.tuple ds) :=
  ⟨same_new n, .tup (new_ne w n) upd_same (h.same (same_new n))⟩
theorem newL {vs : List V} {p : Addr} (w : H a ≠ none) (h : DaAll a H vs ds) (n : H p = none) : Same H (upd H p (.lst vs)) ∧ Da a (upd H p (.lst vs)) (.ref p) (.list ds) :=
  ⟨same_new n, .lst (new_ne w n) upd_same (h.same (same_new n))⟩
/-- an item of such a one -/
theorem ix_da {i : Int} (h : Da a H v (.tuple ds)) (i0 : 0 ≤ i) (i1 : i < ds.length) (q : ∀ x d, d ∈ ds → Da a H x d → Q x H) : rIxT K v (.int i) H Q := by
  obtain ⟨p, xs, rfl, np, hp, hx⟩ := da_tup h
  obtain ⟨m, rfl⟩ := Int.eq_ofNat_of_zero_le i0
  have hm : m < xs.length := by rw [hx.len]; omega
  obtain ⟨d, e1, e2⟩ := hx.get (List.getElem?_eq_getElem hm)
  exact ⟨p, xs, _, xs[m], rfl, rfl, SqT.of hp, atI_nat (List.getElem?_eq_getElem hm), q _ d (List.mem_of_getElem? e1) e2⟩
end
theorem cut_mem {ds : List PyData} {lo hi : Option Int} {d : PyData} (h : d ∈ cutD ds lo hi) : d ∈ ds := List.mem_of_mem_drop (List.mem_of_mem_take h)
theorem cut_le (ds : List PyData) (lo hi : Option Int) : (cutD ds lo hi).length ≤ ds.length := by
  unfold cutD
  rw [List.length_take, List.length_drop]
  omega
theorem cut_upto (ds : List PyData) (k : Nat) : (cutD ds none (some (k : Int))).length = min k ds.length := by
  unfold cutD
  rw [HT.sIx_nat, HT.sIx_none, List.drop_zero, Nat.sub_zero, List.length_take]
  omega
theorem cut_from (ds : List PyData) (k : Nat) : (cutD ds (some (k : Int)) none).length = ds.length - min k ds.length := by
  unfold cutD
  rw [HT.sIx_nat, HT.sIx_none, List.length_take, List.length_drop]
  omega
theorem sm_sub {n m n' m' : Nat} {ds es : List PyData} (h : Sm n m (.tuple ds)) (hl : es.length ≤ m') (h1 : n ≤ n') (h2 : m ≤ m') (he : ∀ e ∈ es, e ∈ ds ∨ Sm (n' - 1) m' e) : Sm n' m' (.tuple es) := by
  have n1 := h.dep1
  have := sm_tup (n := n' - 1) hl fun e q => by
    rcases he e q with c | c
    · exact (h.mem c).up (by omega) h2
    · exact c
  exact this.up (by omega) (Nat.le_refl _)
theorem sm_subL {n m n' m' : Nat} {ds es : List PyData} (h : Sm n m (.tuple ds)) (hl : es.length ≤ m') (h1 : n ≤ n') (h2 : m ≤ m') (he : ∀ e ∈ es, e ∈ ds ∨ Sm (n' - 1) m' e) : Sm n' m' (.list es) := by
  have n1 := h.dep1
  have := sm_lst (n := n' - 1) hl fun e q => by
    rcases he e q with c | c
    · exact (h.mem c).up (by omega) h2
    · exact c
  exact this.up (by omega) (Nat.le_refl _)
theorem sm_int (n m : Nat) (i : Int) : Sm n m (.int i) := ⟨Nat.zero_le _, Nat.zero_le _⟩
theorem sm_bl (n m : Nat) (b : Bool) : Sm n m (.bool b) := ⟨Nat.zero_le _, Nat.zero_le _⟩
end Tw

set_option Elab.async false
set_option linter.all false
set_option maxRecDepth 100000
set_option maxHeartbeats 4000000
/-! rules: max with default, few times a tuple, *= and >>=, statements that are not reached -/
namespace Tw
open PySem PySem.Spec PyProof.Rows L2
section
variable {X : Cx}
/-- a statement that is not reached -/
def tDead : TS := fun _ _ _ => False
theorem ps_dead {st : Stmt} : PS X st tDead := ⟨fun _ _ _ _ _ _ h => h.elim⟩
theorem pss_dead {st : List Stmt} : PSs X st tDead := ⟨fun _ _ _ _ _ _ h => h.elim⟩
/-- max(l, default=0) of ints that are not negative -/
def maxN (ns : List Int) : Int := ns.foldl max 0
def rMaxZ (K : PySem.W.Frag) : List V → List V → Hp → VK → Prop := fun vs zs H Q => ∃ (a : Addr) (ns : List Int), vs = [.ref a] ∧ zs = [.int 0] ∧ SqL K H a (ns.map V.int) ∧ (∀ n ∈ ns, 0 ≤ n) ∧ Q (.int (maxN ns)) H
theorem cr_maxZ (hc : X.calm = true) (hu : X.A.units + 64 < cLine) : CallRK X (.builtin "max") [Str.ofString "default"] (rMaxZ X.K) := by
  intro pins s σ H vs zs us ws Q I r rz h
  obtain ⟨a, ns, rfl, rfl, hs, hn, q⟩ := h
  obtain ⟨its, rv, hl, _⟩ := I.list hs
  rw [Vals.ref1 r]
  obtain ⟨w1, rfl, e1⟩ := vals1 rz
  obtain ⟨t, rfl⟩ : ∃ t, w1 = Value.int 0 t := e1
  have rd : ReadsAll s.heap its.toArray.toList (ns.map .int) [] := IntsAre.reads _ rv.ints
  have dz : ∀ l : List Int, PyData.depthAll (l.map .int) = 0 := fun l => by
    induction l with
    | nil => rfl
    | cons n l ih => simp only [List.map_cons, PyData.depthAll, PyData.depth, ih]; rfl
  refine PySem.W.max_list_default (xs := ns.map .int) (I.ok.hd hc) hl.isList rd ⟨fun x hx y hy => ?_, fun x hx => ?_⟩ (by rw [dz]; show X.A.units + 1 + 0 < cLine; omega) (fun e h' tk k => ?_) (fun y ys i v h' tk bs e hv rv' k => ?_)
  · obtain ⟨i, _, rfl⟩ := List.mem_map.mp hx
    obtain ⟨j, _, rfl⟩ := List.mem_map.mp hy
    simp only [PySem.W.alike]
  · obtain ⟨i, _, rfl⟩ := List.mem_map.mp hx
    exact fun e => by cases e
  · have : ns = [] := by simpa using e
    subst this
    exact ⟨.int _, H, I.kept k, ⟨_, rfl⟩, q⟩
  · cases ns with
    | nil => cases e
    | cons n l =>
      rw [List.map_cons] at e
      injection e with e1 e2
      subst e1 e2
      rw [PySem.W.maxD_ints] at rv'
      cases rv' with
      | int _ t' =>
        have n0 := hn n (by simp)
        refine ⟨.int _, H, I.kept k, ⟨_, rfl⟩, ?_⟩
        have : maxN (n :: l) = l.foldl max n := by
          unfold maxN
          rw [List.foldl_cons]
          congr 1
          omega
        rw [← this]
        exact q
/-- o *= e, one of them small -/
theorem ip_mul : PIp X .Mult (fun x y H Q => ∃ i j, x = .int i ∧ y = .int j ∧ CMul i j ∧ Q (.int (i * j)) H) := by
  intro pins s σ H x y v u Q I r1 r2 h
  obtain ⟨i, j, rfl, rfl, c, q⟩ := h
  obtain ⟨t, rfl⟩ := r1
  obtain ⟨t', rfl⟩ := r2
  exact PyProof.Rows.imul_int ⟨.int _, H, I.tok _, ⟨_, rfl⟩, q⟩ c.ok
/-- o >>= 1 -/
theorem ip_half : PIp X .RShift (fun x y H Q => ∃ n : Nat, x = .int (n : Int) ∧ y = .int 1 ∧ Q (.int ((n / 2 : Nat) : Int)) H) := by
  intro pins s σ H x y v u Q I r1 r2 h
  obtain ⟨n, rfl, rfl, q⟩ := h
  obtain ⟨t, rfl⟩ := r1
  obtain ⟨t', rfl⟩ := r2
  refine PyProof.Rows.irshift_int (by decide) ?_
  rw [show (2 : Int) ^ (1 : Int).toNat = 2 from rfl, Int.fdiv_eq_ediv_of_nonneg _ (by decide)]
  exact ⟨.int _, H, I.tok _, ⟨_, rfl⟩, q⟩

/-! k times a tuple, k from 0 on -/
theorem tuple_mul1 (l : Addr) (items : Array Value) (n : Nat) (dd : Option Addr) (sl : Array (Option Value)) (u : Tok) :
    Meets (Builtin.«tuple.__mul__» ⟨[.ref l, .int 1 u], []⟩) (fun _ R s => s.heap.get? l = some { cls := .type "tuple", dict := dd, data := .seq items n, slots := sl } ∧ R (.ok (.ret (Value.ref l))) s) :=
  .of_wp fun prog w A R s h => by
    obtain ⟨hp, g, d, tk, os⟩ := s
    obtain ⟨hl, h⟩ := h
    have f1 := AutoSeq1.idx_int
    wp_walk using wpAny_loadPart' hl
    repeat (first
      | (refine wpAny_ite_false (by decide) ?_; wp_walk using wpAny_loadPart' hl)
      | (refine wpAny_ite_true (by simp) ?_; wp_walk using wpAny_loadPart' hl))
    exact ⟨_, rfl, h⟩
theorem tuple_mul0 (l : Addr) (items : Array Value) (n : Nat) (dd : Option Addr) (sl : Array (Option Value)) (u : Tok) (c1 : (items.isEmpty || (0 : Int) == 1) = false) :
    Meets (Builtin.«tuple.__mul__» ⟨[.ref l, .int 0 u], []⟩) (fun _ R s => s.heap.get? l = some { cls := .type "tuple", dict := dd, data := .seq items n, slots := sl } ∧
      R (.ok (.ret (Value.ref s.heap.objs.size))) { s with heap := s.heap.push { cls := Value.type "tuple", data := Data.seq #[] }, toks := s.toks }) :=
  .of_wp fun prog w A R s h => by
    obtain ⟨hp, g, d, tk, os⟩ := s
    obtain ⟨hl, h⟩ := h
    have f1 := AutoSeq1.idx_int
    wp_walk using wpAny_loadPart' hl
    repeat (first
      | (refine wpAny_ite_false (decide_eq_false (by rw [c1]; exact Bool.false_ne_true)) ?_; wp_walk using wpAny_loadPart' hl)
      | (refine wpAny_ite_false (by decide) ?_; wp_walk using wpAny_loadPart' hl)
      | (refine wpAny_ite_true (by simp) ?_; wp_walk using wpAny_loadPart' hl))
    exact ⟨_, rfl, h⟩
def rMulT (K : PySem.W.Frag) : R2 := fun x y H Q => ∃ (l : Addr) (k : Nat) (xs : List V), x = .ref l ∧ y = .int (k : Int) ∧ SqT K H l xs ∧ xs ≠ [] ∧ k ≤ 1000 ∧ xs.length ≤ 1000 ∧
  ∀ t H', Same H H' → SqT K H' t (List.replicate k xs).flatten → Q (.ref t) H'
theorem op_mulT : OpR X (binaryOp .Mult) (rMulT X.K) := by
  intro pins s σ H x y v u Q I rx ry h
  obtain ⟨l, k, xs, rfl, rfl, hT, hne, h1, hz, q⟩ := h
  rcases Nat.lt_or_ge 1 k with h2 | h2
  · exact op_repT pins s σ H _ _ v u Q I rx ry ⟨l, _, xs, rfl, rfl, hT, hne, by omega, by omega, hz, fun p np => q p _ (same_new np) (SqT.of (by rw [Int.toNat_natCast]; exact upd_same))⟩
  have rx' := rx
  cases rx
  obtain ⟨t, rfl⟩ := ry
  obtain ⟨its, r, ⟨⟨cls, dd, data, sl⟩, ho, hc, n, hd⟩, hs⟩ := I.tuple hT
  simp only at hc hd
  subst hc hd
  have hle : its.length = xs.length := r.length.symm
  have hn : its ≠ [] := fun e => hne (by
    rw [e] at hle
    exact List.eq_nil_of_length_eq_zero hle.symm)
  have hi : its.toArray.isEmpty = false := by
    cases its with
    | nil => exact absurd rfl hn
    | cons a b => rfl
  have hk : k = 0 ∨ k = 1 := by omega
  rcases hk with rfl | rfl
  · refine wpAny_binaryOp_repeat_ref (T := "tuple") (U := "int") (by decide) ⟨_, ho, rfl⟩ (fun s' => typeIs_int s' _ t) noFill_tuple_mul F.fills_int_mul F.slot_int_rmul repeat_tuple F.slot_int_index.lookup
      (call_meets F.slot_int_rmul (typeIs_int s _ t) F.entry_int_rmul (F.args_int_rmul_2 _ _) (int_rmul_tuple _ t l its.toArray n dd sl)
        ⟨ho, rfl, ⟨_, ho, rfl⟩, call_meets F.slot_tuple_mul ⟨_, ho, rfl⟩ F.entry_tuple_mul (F.args_tuple_mul_2 _ _) (tuple_mul0 l its.toArray n dd sl t (by rw [hi]; rfl)) ⟨ho, ?_⟩⟩)
    refine ⟨.ref s.heap.objs.size, _, I.laid (t' := s.toks) (o := .tup []) (fun b ob q => Heap.get?_push_of_some _ q) (Nat.le_refl _) ?_, rfl, q _ _ (same_new (I.hok.fresh (Nat.le_refl _))) (SqT.of upd_same)⟩
    exact ⟨by simp, _, .nil, IsTup.new _ _⟩
  · refine wpAny_binaryOp_repeat_ref (T := "tuple") (U := "int") (by decide) ⟨_, ho, rfl⟩ (fun s' => typeIs_int s' _ t) noFill_tuple_mul F.fills_int_mul F.slot_int_rmul repeat_tuple F.slot_int_index.lookup
      (call_meets F.slot_int_rmul (typeIs_int s _ t) F.entry_int_rmul (F.args_int_rmul_2 _ _) (int_rmul_tuple _ t l its.toArray n dd sl)
        ⟨ho, rfl, ⟨_, ho, rfl⟩, call_meets F.slot_tuple_mul ⟨_, ho, rfl⟩ F.entry_tuple_mul (F.args_tuple_mul_2 _ _) (tuple_mul1 l its.toArray n dd sl t) ⟨ho, ?_⟩⟩)
    exact ⟨.ref l, H, I, rfl, q _ _ (Same.refl H) (by simpa using hT)⟩
end
end Tw

set_option Elab.async false
set_option linter.all false
set_option maxRecDepth 100000
set_option maxHeartbeats 4000000
/-! for i, x in enumerate(t), t a tuple -/
namespace Tw
open PySem PySem.Spec PyProof.Rows L2
/-- the tuple's iterator, the enumerate over it, as they are made -/
def itO (p : Addr) : Obj :=
  { cls := .type "tuple_iterator", data := .fields #[.ref p, .int 0 0] }
def enO (i : Addr) : Obj :=
  { cls := .type "enumerate", data := .fields #[.none, .bool false, .ref i, rawInt 0, .none, .none] }
theorem enum_newT (p : Addr) (its : Array Value) (k : Nat) (dd : Option Addr) (sl : Array (Option Value)) :
    Meets (Builtin.«enumerate.__new__» ⟨[.type "enumerate", .ref p], []⟩) (fun _ R s =>
      s.heap.get? p = some ⟨.type "tuple", dd, .seq its k, sl⟩ ∧
      R (.ok (.ret (.ref (s.heap.push (itO p)).objs.size))) { s with heap := (s.heap.push (itO p)).push (enO s.heap.objs.size) }) := by
  refine .of_wp fun prog w A R s h => ?_
  obtain ⟨hp, gn, dr, tk, os⟩ := s
  obtain ⟨hl, h⟩ := h
  have hsub := sub_enumerate
  have isT : (Shared.heap ⟨hp, gn, dr, tk, os⟩).IsTuple p its := ⟨_, hl, rfl, k, rfl⟩
  wp_walk using AutoSeq1.wpAny_loadPart' hl
  refine wpAny_stack_any fun _ => ?_
  refine wpAny_pure ?_
  split
  · rename_i c _ _ _ _ _
    cases (c == Value.type "enumerate") <;>
    · wp_walk using AutoSeq1.wpAny_loadPart' hl, wpAny_pyIter_tuple isT
      exact ⟨_, rfl, h⟩
  · wp_walk using AutoSeq1.wpAny_loadPart' hl, wpAny_pyIter_tuple isT
    exact ⟨_, rfl, h⟩
section
variable {prog : Program} {w : World} {A : Around} {E : Value → Shared → Prop} {s : Shared}
theorem call_enumT {p : Addr} {its : Array Value} {Q : Value → Shared → Prop} (hT : s.heap.IsTuple p its)
    (h : ∀ h', IsEnum h' (s.heap.objs.size + 1) s.heap.objs.size 0 .none → h'.IsTupleIter s.heap.objs.size p 0 →
      (∀ b o, s.heap.get? b = some o → h'.get? b = some o) → Q (.ref (s.heap.objs.size + 1)) { s with heap := h' }) :
    wpAny (model prog w) A (call (.type "enumerate") [.ref p]) Q E s := by
  obtain ⟨⟨c, dd, dt, sl⟩, hl, hc, k, hd⟩ := hT
  cases (show c = .type "tuple" from hc)
  cases (show dt = .seq its k from hd)
  have z1 : (s.heap.push (itO p)).objs.size = s.heap.objs.size + 1 := Heap.size_push ..
  have g1 : ((s.heap.push (itO p)).push (enO s.heap.objs.size)).get? (s.heap.objs.size + 1) = some (enO s.heap.objs.size) := by
    rw [← z1]
    exact Heap.get?_push_size _ rfl
  have g0 : ((s.heap.push (itO p)).push (enO s.heap.objs.size)).get? s.heap.objs.size = some (itO p) :=
    Heap.get?_push_of_some _ (Heap.get?_push_size _ rfl)
  refine callType_new F.called_enumerate (by decide) (F.typeCall_enumerate_1 _) (F.newCall_enumerate_1 _)
    (fun obj => F.args_object_init_2 obj _) F.entry_enumerate_new (enum_newT p its k dd sl) ⟨hl, ?_⟩
  show _ ∧ _
  rw [z1]
  exact ⟨⟨_, g1, rfl⟩, h _ g1 ⟨_, g0, rfl, rfl⟩ fun b o y => Heap.get?_push_of_some _ (Heap.get?_push_of_some _ y)⟩
end
/-- the tuple at a, each item in a new pair with its number -/
def IteT (K : PySem.W.Frag) (a : Addr) : It where
  go := fun i H => ∃ (xs : List V) (x : V), SqT K H a xs ∧ xs[i]? = some x
  yld := fun i H v H' => ∃ t x, v = .ref t ∧ H t = none ∧ H' = upd H t (.tup [.int (i : Nat), x]) ∧
    ∀ xs, SqT K H a xs → xs[i]? = some x
  stop := fun i H => ∃ xs : List V, SqT K H a xs ∧ xs.length = i
theorem apart {h : Heap} {a b : Addr} {o u : Obj} {m n : String} (ha : h.get? a = some o) (hb : h.get? b = some u)
    (ca : o.cls = .type m) (cb : u.cls = .type n) (d : m ≠ n) : a ≠ b := by
  rintro rfl
  rw [ha] at hb
  cases hb
  rw [ca] at cb
  cases cb
  exact d rfl
theorem turn_enumT {P : Program} {w : World} {K : PySem.W.Frag} {elts : List Expr} {kk : Nat} {tpos : Pos} (a e it : Addr) :
    Turn P w K (.Tuple elts kk tpos) (IteT K a) [e, it] e
      (fun i h => (∃ old, IsEnum h e it ((i : Nat) : Int) old) ∧ h.IsTupleIter it a i ∧ e ≠ it) where
  mem := by simp
  obj := fun i h st b hb => by
    obtain ⟨⟨old, he⟩, ⟨o, ho, hc, hd⟩, _⟩ := st
    rcases List.mem_cons.mp hb with z | z
    · subst z; exact ⟨_, he, fun v q => nomatch q⟩
    · have z := List.mem_singleton.mp z
      subst z; exact ⟨o, ho, fun v q => by rw [hd] at q; cases q⟩
  keep := fun i h h' st k => by
    obtain ⟨⟨old, he⟩, hi, hne⟩ := st
    exact ⟨⟨old, k e (by simp) _ he⟩, hi.at fun o q => k it (by simp) o q, hne⟩
  item := by
    intro X hP hw hK hc i pins s σ H E I hf st hg
    subst hP hw hK
    obtain ⟨⟨old, he⟩, hit, hne⟩ := st
    obtain ⟨xs, x, hq, hx⟩ := hg
    obtain ⟨its, rv, p, hz⟩ := I.tuple hq
    obtain ⟨u, hu, ru⟩ := rv.get hx
    have isT : s.heap.IsTuple a its.toArray := p
    obtain ⟨oa, ga, ca, _⟩ := id isT
    obtain ⟨oi, gi, ci, _⟩ := id hit
    have nai : a ≠ it := apart ga gi ca ci (by decide)
    have nea : e ≠ a := apart he ga rfl ca (by decide)
    have hel : e < s.heap.objs.size := Heap.lt_size he
    have hil : it < s.heap.objs.size := Heap.lt_size gi
    have hlt : i < its.toArray.size := by
      have := (List.getElem?_eq_some_iff.mp hu).1
      simpa using this
    refine wpAny_pyNext_enum_itemD (Draws.tuple (A := X.A.in1) (I.ok.hd hc) it a nai its.toArray) he ⟨hit, isT⟩ hlt hne
      (by simp [hne, nea]) fun y h' tk hy ho st' hT hsz hk => ?_
    have yu : y = u := by
      have : its[i]? = some y := by simpa using hy
      rw [hu] at this
      cases this; rfl
    subst yu
    refine ⟨_, rfl, wpAny_letOwnedTupleGo_enum (s := { s with heap := h', toks := tk + 1 }) ho fun h2 he2 sb => ?_⟩
    have hT2 := (sb.2 _ (Nat.ne_of_gt hel)).trans hT
    have new : ObjOk X.prog X.w (upd H s.heap.objs.size (.tup [.int (i : Nat), x])) h2 s.heap.objs.size (.tup [.int (i : Nat), x]) :=
      ⟨by show 2 ≤ sizeLine; decide, [.int i tk, y], .cons ⟨_, rfl⟩ (.cons ru .nil), ⟨_, hT2, rfl, _, rfl⟩⟩
    have old2 : ∀ b ob, b ∉ [e, it] → s.heap.get? b = some ob → h2.get? b = some ob := fun b ob hb q => by
      have b1 : b ≠ e := fun z => hb (by simp [z])
      have b2 : b ≠ it := fun z => hb (by simp [z])
      exact (sb.2 b b1).trans (hk b ob b1 b2 q)
    have I1 := I.turnedNew (t' := tk + 1) (ch := [e, it]) old2 hf (Nat.le_refl _) new
    refine ⟨.ref s.heap.objs.size, _, I1, rfl, ⟨_, x, rfl, I.hok.fresh (Nat.le_refl _), rfl, fun ys hy => by rw [I.tuple_inj hy hq]; exact hx⟩,
      ⟨⟨y, he2⟩, st'.1.at fun o q => (sb.2 it (Ne.symm hne)).trans q, hne⟩, fun b hb => ?_⟩
    have hb' : b < s.heap.objs.size := by
      rcases List.mem_cons.mp hb with z | z
      · rw [z]; exact hel
      · rw [List.mem_singleton.mp z]; exact hil
    rw [upd_ne (Nat.ne_of_lt hb')]
    exact (hf b hb).1
  done := by
    intro X hP hw hK hc i pins s σ H E I hf st hg
    subst hP hw hK
    obtain ⟨⟨old, he⟩, hit, hne⟩ := st
    obtain ⟨xs, hq, hx⟩ := hg
    obtain ⟨its, rv, p, hz⟩ := I.tuple hq
    obtain ⟨oa, ga, ca, _⟩ := id (show s.heap.IsTuple a its.toArray from p)
    obtain ⟨oi, gi, ci, _⟩ := id hit
    have nai : a ≠ it := apart ga gi ca ci (by decide)
    obtain ⟨f0, f1, f2, f3, f4, f5⟩ := hf it (by simp)
    have ei : i = its.toArray.size := by
      rw [← hx, rv.length, List.size_toArray]
    subst ei
    refine wpAny_pyNext_enum_endD (Draws.tuple (A := X.A.in1) (I.ok.hd hc) it a nai its.toArray) he ⟨hit, p⟩ fun h' eb => ?_
    exact ⟨rfl, I.turned (t' := s.toks) (fun b o hb q => eb b o hb q) f0 f1 f3 f4 f5⟩
  self := fun A i s Q E st h => by
    obtain ⟨⟨_, he⟩, _⟩ := st
    exact wpAny_pyIter_enum he h
/-- enumerate(e), e a tuple -/
def iEnumT (K : PySem.W.Frag) (te : TE) : TI := fun σ H R =>
  te σ H fun v H1 => ∃ a xs, v = .ref a ∧ SqT K H1 a xs ∧ R (IteT K a) H1
theorem pi_enumT {X : Cx} {e : Expr} {te : TE} {p pos tpos : Pos} {elts : List Expr} {kk : Nat} (hg : Gl X "enumerate")
    (hm : X.mg "enumerate" = none) (he : PE X e te) (hs : starEach [e] X.env = (false, eval e X.env) :: starEach [] X.env := by rfl) :
    PI X (.Tuple elts kk tpos) (.Call (.Name "enumerate" p) [e] [] pos) (iEnumT X.K te) := by
  refine ⟨fun pins s σ H R I h => ?_⟩
  refine Call_ (ld_blt I hg hm boot_enumerate (PyProof.Rows.callWith_type1 (args_cons
    (thn (he.run pins s σ H _ I h) fun u s1 ⟨v, H1, I1, r1, q1⟩ => args_nil ?_) hs) hs rfl))
  obtain ⟨a, xs, rfl, hq, q⟩ := q1
  cases r1
  obtain ⟨its, rv, isT, hz⟩ := I1.tuple hq
  refine call_enumT (show s1.heap.IsTuple a its.toArray from isT) fun h' en ti keep => wpAny_pyIter_enum en ?_
  refine ⟨s1.heap.objs.size + 1, [s1.heap.objs.size + 1, s1.heap.objs.size], _, _, H1, rfl, I1.kept (t' := s1.toks) keep,
    turn_enumT a (s1.heap.objs.size + 1) s1.heap.objs.size, ⟨⟨.none, en⟩, ti, Nat.succ_ne_self _⟩, fun b hb => ?_, q⟩
  have le : s1.heap.objs.size ≤ b := by
    rcases List.mem_cons.mp hb with z | z
    · rw [z]; exact Nat.le_add_right _ _
    · rw [List.mem_singleton.mp z]; exact Nat.le_refl _
  exact I1.fpOk le (I1.hok.fresh le)
/-- a loop over such pairs, its body already read -/
theorem for_enumT {K : PySem.W.Frag} {a : Addr} {xs : List V} {B : (L2.St → Hp → Prop) → V → L2.St → Hp → Prop} {nx : L2.St → Hp → Prop} {σ : L2.St} {H : Hp}
    (Pv : Nat → L2.St → Hp → Prop) (h0 : Pv 0 σ H) (hl : ∀ i σ' H', i ≤ xs.length → Pv i σ' H' → SqT K H' a xs)
    (hs : ∀ (i : Nat) x t σ' H', xs[i]? = some x → Pv i σ' H' → H' t = none → B (Pv (i + 1)) (.ref t) σ' (upd H' t (.tup [.int (i : Nat), x])))
    (hd : ∀ σ' H', Pv xs.length σ' H' → nx σ' H') :
    ∃ W : Nat → Nat → L2.St → Hp → Prop, (∃ m, W 0 m σ H) ∧ ∀ i m σ H, W i m σ H →
      ((IteT K a).stop i H ∧ nx σ H) ∨ ((IteT K a).go i H ∧ ∃ N : L2.St → Hp → Prop, (∀ σ' H', N σ' H' → ∃ m', m' < m ∧ W (i + 1) m' σ' H') ∧
        ∀ x H', (IteT K a).yld i H x H' → B N x σ H') := by
  refine ⟨fun i m σ H => m = xs.length - i ∧ i ≤ xs.length ∧ Pv i σ H, ⟨xs.length, by simp, Nat.zero_le _, h0⟩, ?_⟩
  rintro i m σ' H' ⟨rfl, hi, p⟩
  have ql := hl i σ' H' hi p
  by_cases c : i < xs.length
  · refine Or.inr ⟨⟨xs, xs[i], ql, by simp [c]⟩, Pv (i + 1), fun σ2 H2 p2 => ⟨xs.length - (i + 1), by omega, rfl, c, p2⟩, fun v H2 y => ?_⟩
    obtain ⟨t, x, rfl, nt, rfl, e2⟩ := y
    exact hs i x t σ' H' (e2 xs ql) p nt
  · have e : i = xs.length := by omega
    subst e
    exact Or.inl ⟨⟨xs, ql, rfl⟩, hd σ' H' p⟩
/-- .. in a comprehension -/
theorem lc_enumT {K : PySem.W.Frag} {a : Addr} {xs : List V} {gt : TG} {tt : TT} {te : TE} {vs : List Nat} {σ : L2.St} {H1 : Hp} {D : Addr} {Qd : Hp → Prop}
    (Pv : Nat → Hp → Prop) (h0 : Pv 0 (upd H1 D (.lst []))) (hl : ∀ i H, i ≤ xs.length → Pv i H → SqT K H a xs)
    (hs : ∀ (i : Nat) x t H, xs[i]? = some x → Pv i H → H t = none → gt (.ref t) (wipe σ vs) (upd H t (.tup [.int (i : Nat), x])) fun σ2 H2 =>
      wipe σ2 vs = wipe σ vs ∧ tt σ2 H2 fun b H3 => if b = true then te σ2 H3 fun y H4 => ∃ acc, H4 D = some (.lst acc) ∧
        acc.length < sizeLine ∧ Pv (i + 1) (upd H4 D (.lst (acc ++ [y]))) else Pv (i + 1) H3)
    (hd : ∀ H, Pv xs.length H → Qd H) :
    ∃ W : Nat → Nat → Hp → Prop, (∃ m, W 0 m (upd H1 D (.lst []))) ∧ ∀ i m H, W i m H →
      ((IteT K a).stop i H ∧ Qd H) ∨ ((IteT K a).go i H ∧ ∃ Nx : Hp → Prop, (∀ H', Nx H' → ∃ m', m' < m ∧ W (i + 1) m' H') ∧
        ∀ x H', (IteT K a).yld i H x H' → gt x (wipe σ vs) H' fun σ2 H2 => wipe σ2 vs = wipe σ vs ∧ tt σ2 H2 fun b H3 =>
          if b = true then te σ2 H3 fun y H4 => ∃ acc, H4 D = some (.lst acc) ∧ acc.length < sizeLine ∧
            Nx (upd H4 D (.lst (acc ++ [y]))) else Nx H3) := by
  refine ⟨fun i m H => m = xs.length - i ∧ i ≤ xs.length ∧ Pv i H, ⟨xs.length, by simp, Nat.zero_le _, h0⟩, ?_⟩
  rintro i m H ⟨rfl, hi, p⟩
  have ql := hl i H hi p
  by_cases c : i < xs.length
  · refine Or.inr ⟨⟨xs, xs[i], ql, by simp [c]⟩, Pv (i + 1), fun H2 p2 => ⟨xs.length - (i + 1), by omega, rfl, c, p2⟩, fun v H2 y => ?_⟩
    obtain ⟨t, x, rfl, nt, rfl, e2⟩ := y
    exact hs i x t H (e2 xs ql) p nt
  · have e : i = xs.length := by omega
    subst e
    exact Or.inl ⟨⟨xs, ql, rfl⟩, hd H p⟩
end Tw

set_option Elab.async false
set_option linter.all false
set_option maxRecDepth 100000
set_option maxHeartbeats 8000000
/-! own exceptions as values -/
namespace Tw
open PySem PySem.Spec PyProof.Rows PySem.Calls PySem.HandSPX L2
section
variable {M : Model} {A : Around} {E : Value → Shared → Prop} {hp : Heap} {gs : Array GenState} {dr : Drawn} {tk : Nat} {os : OsState}
variable {cn cq : Str} {C N : Addr} {bs ms mb : List Value} {hd : Bool} {sn : List Str} {sb : List Value} {ab : Bool} {co : Option Bool} {dd : Option Addr} {k0 k1 k2 k3 k5 : Option Value} {B nw ini : String}
/-- what BaseException.__new__ takes: any names -/
theorem chk_new (F : ExcBaseFacts B nw ini mb) (hm : ∀ T : String, ms.contains (.type T) = mb.contains (.type T)) {rest : List Value} {kws : List (Str × Value)} {Q : Unit → Shared → Prop}
    (hC : hp.get? C = some (excClassObj cn cq C N bs ms hd sn sb ab co dd k0 k1 k2 k3 k5 nw)) (q : Q () ⟨hp, gs, dr, tk, os⟩) : wpAny M A (checkBuiltinCall nw { pos := .ref C :: rest, kw := kws }) Q E ⟨hp, gs, dr, tk, os⟩ := by
  have c1 : (Value.ref C :: ms).contains (.type B) = true := by rw [List.contains_cons, hm, F.hasB, Bool.or_true]
  have c2 := F.noStar
  simp only [checkBuiltinCall, F.newKind, F.newSplit, F.newRow]
  repeat (first | refine wpAny_loadPart_at hC ?_ | (refine wpAny_isSubtype_exc hC ?_; rw [c1]) | refine wpAny_staticBase_exc hC ?_ | refine wpAny_madeBy_exc hC ?_ | simp only [bne_self_eq_false, Bool.false_eq_true, if_false] | wp_step)
  exact q
end
section
variable {prog : Program} {w : World} {A : Around} {E : Value → Shared → Prop} {R : Result → Shared → Prop} {hp : Heap} {gs : Array GenState} {dr : Drawn} {tk : Nat} {os : OsState}
variable {cn cq : Str} {C N : Addr} {bs ms mb : List Value} {hd : Bool} {sn : List Str} {sb : List Value} {ab : Bool} {co : Option Bool} {dd : Option Addr} {k0 k1 k2 k3 k5 : Option Value} {B nw ini : String}
theorem run_new (F : ExcBaseFacts B nw ini mb) (hm : ∀ T : String, ms.contains (.type T) = mb.contains (.type T)) {rest : List Value} {kws : List (Str × Value)}
    (hC : hp.get? C = some (excClassObj cn cq C N bs ms hd sn sb ab co dd k0 k1 k2 k3 k5 nw))
    (q : R (.ok (.ret (.ref (hp.objs.size + 1)))) ⟨(hp.push (PySem.W.kdv_tup rest)).push (excO C hp.objs.size), gs, dr, tk, os⟩) (hr : rest.length ≤ sizeLine) :
    codeAny (model prog w) A (.builtin nw { pos := .ref C :: rest, kw := kws }) R ⟨hp, gs, dr, tk, os⟩ := by
  have e0 := F.ends
  have c1 : (Value.ref C :: ms).contains (.type B) = true := by rw [List.contains_cons, hm, F.hasB, Bool.or_true]
  have c2 : (Value.ref C :: ms).contains (.type "AttributeError") = false := by rw [List.contains_cons, hm, F.noAttr]; rfl
  have c3 : (Value.ref C :: ms).contains (.type "NameError") = false := by rw [List.contains_cons, hm, F.noName]; rfl
  refine codeAny_builtinAt F.entry ?_
  unfold Builtin.«BaseException.__new__»
  refine PySem.wpAt_bind ?_
  show PySem.wpAt _ _ _ (stack >>= _) _ _ _
  refine PySem.wpAt_bind (PySem.wpAt_stack fun _ _ => PySem.wpAt_of_wpAny ?_)
  wp_walk
  refine PySem.wpAt_of_wpAny ?_
  rw [F.owner]
  repeat (first | with_reducible refine wpAny_madeHere_exc F.canon hC ?_ | with_reducible refine wpAny_loadPart_at hC ?_ | (with_reducible refine wpAny_isSubtype_exc hC ?_; first | rw [c1] | rw [c2] | rw [c3]) | wp_step)
  show R _ _
  rw [Heap.size_push]
  exact q
theorem run_type (F : ExcBaseFacts B nw ini mb) (hm : ∀ T : String, ms.contains (.type T) = mb.contains (.type T)) {rest : List Value} {kws : List (Str × Value)} {fI : Addr} {Q : Fin → Shared → Prop}
    (hC : hp.get? C = some (excClassObj cn cq C N bs ms hd sn sb ab co dd k0 k1 k2 k3 k5 nw))
    (hi : PySem.W.Looks (model prog w) hp (typeLookup (.ref C) "__init__") (some (.ref fI))) (hb : ∀ self, PySem.W.Looks (model prog w) hp (bindSpecial (.ref fI) self) (.ref fI, [self])) (hr : rest.length ≤ sizeLine)
    (q : codeAny (model prog w) A (.call (.ref fI) { pos := .ref (hp.objs.size + 1) :: rest, kw := kws })
      (fun r s' => match r with | .ok (.ret v) => v = .none ∧ Q (.done (.ret (.ref (hp.objs.size + 1)))) s' | .ok _ => False | .error e => E e s')
      ⟨(hp.push (PySem.W.kdv_tup rest)).push (excO C hp.objs.size), gs, dr, tk, os⟩) :
    wpAny (model prog w) A (Builtin.«type.__call__» { pos := .ref C :: rest, kw := kws }) Q E ⟨hp, gs, dr, tk, os⟩ := by
  repeat (first | with_reducible refine wpAny_loadPart_at hC ?_ | with_reducible refine wpAny_madeBy_exc hC ?_ | wp_step)
  refine codeAny_call_builtin_code (Code.quiet_builtin _ F.quiet) (chk_new F hm hC ?_)
  refine run_new F hm hC ?_ hr
  show wpAny _ _ _ _ _ _
  have k : ∀ b o, hp.get? b = some o → ((hp.push (PySem.W.kdv_tup rest)).push (excO C hp.objs.size)).get? b = some o := fun b o e => Heap.get?_push_of_some _ (Heap.get?_push_of_some _ e)
  have hC1 := k _ _ hC
  have hx : ((hp.push (PySem.W.kdv_tup rest)).push (excO C hp.objs.size)).get? (hp.objs.size + 1) = some (excO C hp.objs.size) := by heap_get
  have c4 : (Value.ref C :: ms).contains (.ref C) = true := by simp
  have i1 := hi.keeps k
  have b1 := (hb (.ref (hp.objs.size + 1))).keeps k
  unfold isInstance
  repeat (first | with_reducible refine wpAny_loadPart_at hx ?_ | (with_reducible refine wpAny_isSubtype_exc hC1 ?_; rw [c4]) | wp_step)
  show wpAny _ _ (typeLookup (.ref C) _) _ _ _
  refine i1.at ?_
  refine wpAny_holding (wpAny_bind (b1.at ?_))
  refine wpAny_bind (wpAny_call (codeAny_mono q fun r s' z => ?_))
  rcases r with e | (v | _ | _ | _) <;> first | exact z | exact z.elim | skip
  obtain ⟨rfl, z⟩ := z
  first
    | exact wpAny_pure (wpAny_pure z)
    | (wp_walk; exact z)
theorem chk_type {M : Model} {E : Value → Shared → Prop} {rest : List Value} {kws : List (Str × Value)} {Q : Unit → Shared → Prop}
    (hC : hp.get? C = some (excClassObj cn cq C N bs ms hd sn sb ab co dd k0 k1 k2 k3 k5 nw)) (q : Q () ⟨hp, gs, dr, tk, os⟩) :
    wpAny M A (checkBuiltinCall "type.__call__" { pos := .ref C :: rest, kw := kws }) Q E ⟨hp, gs, dr, tk, os⟩ := by
  have f3 := tc_sub
  have hT : (⟨hp, gs, dr, tk, os⟩ : Shared).TypeIs (.ref C) "type" := ⟨_, hC, rfl⟩
  simp only [checkBuiltinCall, tc_kind, tc_split]
  repeat (any_goals (first | assumption | with_reducible refine wpAny_loadPart_at hC ?_ | with_reducible refine wpAny_onRaise ?_ | with_reducible refine wpAny_map ?_ | wp_step))
theorem run_call (F : ExcBaseFacts B nw ini mb) (hm : ∀ T : String, ms.contains (.type T) = mb.contains (.type T)) {rest : List Value} {kws : List (Str × Value)} {fI : Addr}
    (hC : hp.get? C = some (excClassObj cn cq C N bs ms hd sn sb ab co dd k0 k1 k2 k3 k5 nw))
    (hi : PySem.W.Looks (model prog w) hp (typeLookup (.ref C) "__init__") (some (.ref fI))) (hb : ∀ self, PySem.W.Looks (model prog w) hp (bindSpecial (.ref fI) self) (.ref fI, [self])) (hr : rest.length ≤ sizeLine)
    (q : codeAny (model prog w) (A.under (.builtin "type.__call__" { pos := .ref C :: rest, kw := kws })) (.call (.ref fI) { pos := .ref (hp.objs.size + 1) :: rest, kw := kws }) (PySem.W.InitBack (hp.objs.size + 1) R)
      ⟨(hp.push (PySem.W.kdv_tup rest)).push (excO C hp.objs.size), gs, dr, tk, os⟩) :
    codeAny (model prog w) A (.call (.ref C) { pos := rest, kw := kws }) R ⟨hp, gs, dr, tk, os⟩ := by
  have f1 := tc_lookup
  have f2 := tc_bind (.ref C)
  have ty : (⟨hp, gs, dr, tk, os⟩ : Shared).TypeIs (.ref C) "type" := ⟨_, hC, rfl⟩
  refine codeAny_of_tree ?_
  show wpAny _ _ (callAny (.ref C) _) _ _ _
  repeat (any_goals (first | assumption | with_reducible refine wpAny_loadPart_at hC ?_ | wp_step))
  refine ⟨rfl, ?_⟩
  refine codeAny_call_builtin_at (Code.quiet_builtin _ (by decide +kernel)) entry_typeCall (chk_type hC (run_type F hm hC hi hb hr ?_))
  refine codeAny_mono q fun r s' z => ?_
  rcases r with e | (v | _ | _ | _) <;> exact z
end
end Tw

set_option Elab.async false
set_option linter.all false
set_option maxRecDepth 100000
set_option maxHeartbeats 8000000
/-! own exceptions as values -/
namespace PySem
namespace LowK
open PySem.W PySem.Calls PyProof.Rows PySem.HandSPX
theorem one_size (v : Value) : [v].length ≤ sizeLine := by
  rw [sizeLine_eq]
  exact (by decide : 1 ≤ 16777216)
theorem kept_but {K : Frag} {h h' : Heap} {x : Addr} (X : K.In h) (hx : K.lookup x = none) (k : ∀ b o, b ≠ x → h.get? b = some o → h'.get? b = some o) : K.In h' := fun a o e =>
  k a o (fun z => by rw [z, hx] at e; cases e) (X a o e)
theorem ldC {M : Model} {s : Shared} {name : Str} {scope : Scope} {L a : Addr} {cd : Value} {m : Str → Option Value} {x : Str} {pos : Pos} {v : Value} {Q : Value → Shared → Prop} {A : Around} {E : Value → Shared → Prop} (hn : s.heap.Ns L m) (hv : m x = some v) (h : Q v s)
    (hk : scope.kind = .function := by rfl) (hl : (envOfC name scope L a cd).kindOf x = some .local := by rfl) (hd : (x == ("__debug__" : Str)) = false := by decide) :
    wpAny M A (eval (.Name x pos) (envOfC name scope L a cd)) Q E s := wpAny_Name (wpAny_loadName_local hk hl hn hv h) hd
end LowK
end PySem
namespace PySem
namespace LowG
open PySem.W PySem.Calls PyProof.Rows PySem.HandSPX LowK
/-! ### the text of __init__ -/
def iA (p1 p2 : Pos) : Arguments := { posonlyargs := [], args := [{ arg := "self", annotation := none, pos := p1 }, { arg := "given", annotation := none, pos := p2 }], vararg := none, kwonlyargs := [], kw_defaults := [], kwarg := none, defaults := [] }
def iB (q1 q2 q3 q4 : Pos) : List Stmt := [.Assign [.Attribute (.Name "self" q1) "given" q2] (.Name "given" q3) q4]
def iS : Scope := { kind := .function, names := [(PySem.Str.ofString "self", .local), (PySem.Str.ofString "given", .local)], isGenerator := false, isCoroutine := false, more := [] }
/-- what the written part says of Low, at C, and of its __init__, at fI -/
structure LowTxt (K : Frag) (mg : Str → Option Value) (cn qn : Str) (C fI : Addr) : Prop where
  gC : mg cn = some (.ref C)
  cls : ∃ nm q N bs bm sn sub ab col dd k0 k1 k2 k3 k5, K.lookup C = some (excClassObj nm q C N bs bm true sn sub ab col dd k0 k1 k2 k3 k5 "ValueError.__new__") ∧ refsVE bm = true
  sa : findIn K (.ref C) "__setattr__" = some (some (.builtin "object.__setattr__"))
  ga : findIn K (.ref C) "__getattribute__" = some (some (.builtin "BaseException.__getattribute__"))
  gg : findIn K (.ref C) "__getattr__" = some none
  noN : findIn K (.ref C) "given" = some none
  iC : findIn K (.ref C) "__init__" = some (some (.ref fI))
  tC : typeIn K (.ref fI) = some (.type "function")
  kC : keepIn K (.ref C) = true
  exC : subIn K (.ref C) (.type "BaseException") = some true
  tyC : typeIn K (.ref C) = some (.type "type")
  hdC : hasDictIn K C = true
  fn : ∃ (oc : Value) (od : Option Addr) (doc pm : Value) (an : Option Addr) (cdv ct : Value) (osl : Array (Option Value)) (p1 p2 q1 q2 q3 q4 : Pos),
    K.lookup fI = some ⟨oc, od, .func (fnOf "__init__" qn (iA p1 p2) (iB q1 q2 q3 q4) iS .none .none doc pm an cdv ct), osl⟩ ∧ codeIn K cdv qn = true
/-- what __init__ leaves of a fresh exception at x -/
structure InitEnd (h h' : Heap) (x C dx t1 : Addr) (v : Value) : Prop where
  keep : ∀ b o, b ≠ x → h.get? b = some o → h'.get? b = some o
  obj : h'.get? x = some { cls := .ref C, dict := some dx, data := .fields #[.ref t1, .none, .none, .none, .bool false, .none] }
  dbig : h.objs.size ≤ dx
  dne : dx ≠ x
  ns : h'.Ns1 dx (fun y => if y = "given" then some v else none)
section
variable {prog : Program} {w : World} {A : Around} {E : Value → Shared → Prop} {R : Result → Shared → Prop} {s : Shared} {K : Frag} {mg : Str → Option Value} {cn qn : Str} {C fI : Addr}
theorem low_init (T : LowTxt K mg cn qn C fI) {x t0 : Addr} {v : Value} (X : K.In s.heap) (hlim : s.heap.NoLimit) (hx : s.heap.get? x = some (excO C t0)) (hnx : K.lookup x = none) (hroom : A.depth < recursionLimit) {ag : Args} (hag : ∀ (doc pm cdv ct : Value) (an : Option Addr) (p1 p2 q1 q2 q3 q4 : Pos), bindArgs (fnOf "__init__" qn (iA p1 p2) (iB q1 q2 q3 q4) iS .none .none doc pm an cdv ct) ag = pure [(("self" : Str), Value.ref x), (("given" : Str), v)])
    (hq : ∀ h' tk dx, InitEnd s.heap h' x C dx t0 v → R (.ok (.ret .none)) { s with heap := h', toks := tk }) :
    codeAny (model prog w) A (.call (.ref fI) ag) R s := by
  obtain ⟨oc, od, doc, pm, an, cdv, ct, osl, p1, p2, q1, q2, q3, q4, ho, hcd⟩ := T.fn
  obtain ⟨nm, q, N, bs, bm, sn, sub, ab, col, dd, k0, k1, k2, k3, k5, hC, hbm⟩ := T.cls
  have hcl : clsIn K C = some { name := nm, bases := bs, mro := .ref C :: bm, ns := N, qualname := q, hasDict := true, slotNames := sn, subclasses := sub, abstract := ab, collection := col, hasDel := false } := by unfold clsIn; rw [hC] <;> rfl
  refine Att.call_fn (binds := [("self", .ref x), ("given", v)]) X hlim ho hcd hroom (BindsTo.of_eq (hag _ _ _ _ _ _ _ _ _ _ _)) (by first | rfl | decide | with_unfolding_all rfl) (fun s₁ IC => ?_) rfl rfl rfl
  obtain ⟨h₁, tk₁, rfl⟩ := IC.toInCall.same
  have k : ∀ b o, s.heap.get? b = some o → h₁.get? b = some o := IC.toInCall.keep
  have hn := IC.toInCall.ns
  have hxL : s.heap.objs.size ≠ x := Nat.ne_of_gt (Heap.lt_size hx)
  have X₁ : K.In h₁ := X.keeps k
  have hx₁ := k _ _ hx
  -- self.by = by
  show wpAny _ _ (execs _ _) _ _ _
  refine wpAny_execs_cons (plainObj_wpAny_Assign_Attribute ?_)
  refine ldC (v := v) hn (by first | rfl | with_unfolding_all rfl | kernel_rfl) (ldC (v := .ref x) hn (by first | rfl | with_unfolding_all rfl | kernel_rfl) ?_)
  refine set_plain X₁ (ox := excO C t0) (od := none) ⟨hx₁, rfl, rfl, trivial⟩ T.sa ?_
  refine exc_osa X₁ hx₁ hcl (show refsVE (.ref C :: bm) = true from hbm) rfl T.noN (fun h₃ tk₃ dx k₃ dn dne hx₃ hn₃ => ?_)
  show wpAny _ _ (execs _ _) _ _ _
  have z : s.heap.objs.size < h₁.objs.size := hn.lt
  exact wpAny_execs_nil (hq h₃ tk₃ dx ⟨fun b o hb e => k₃ b o hb (k b o e), hx₃, Nat.le_of_lt (Nat.lt_of_lt_of_le z dn), dne, hn₃⟩)

/-- a made exception -/
structure Made (h h' : Heap) (e C d t0 : Addr) (v : Value) : Prop where
  keep : ∀ b o, h.get? b = some o → h'.get? b = some o
  new : h.objs.size ≤ e
  obj : h'.get? e = some { cls := .ref C, dict := some d, data := .fields #[.ref t0, .none, .none, .none, .bool false, .none] }
  dbig : h.objs.size ≤ d
  dne : d ≠ e
  ns : h'.Ns1 d (fun y => if y = "given" then some v else none)
theorem made (T : LowTxt K mg cn qn C fI) {rest : List Value} {kws : List (Str × Value)} {v : Value} (X : K.In s.heap) (hlim : s.heap.NoLimit) (hroom : A.depth + 1 < recursionLimit) (hl : rest.length ≤ sizeLine)
    (hag : ∀ (x : Addr) (doc pm cdv ct : Value) (an : Option Addr) (p1 p2 q1 q2 q3 q4 : Pos), bindArgs (fnOf "__init__" qn (iA p1 p2) (iB q1 q2 q3 q4) iS .none .none doc pm an cdv ct) { pos := .ref x :: rest, kw := kws } = pure [(("self" : Str), Value.ref x), (("given" : Str), v)])
    (hq : ∀ h' tk e d t0, Made s.heap h' e C d t0 v → R (.ok (.ret (.ref e))) { s with heap := h', toks := tk }) :
    codeAny (model prog w) A (.call (.ref C) { pos := rest, kw := kws }) R s := by
  obtain ⟨nm, q, N, bs, bm, sn, sub, ab, col, dd, k0, k1, k2, k3, k5, hC, hbm⟩ := T.cls
  obtain ⟨hp, g, dr, tk, os⟩ := s
  have k : ∀ b o, hp.get? b = some o → ((hp.push (kdv_tup rest)).push (excO C hp.objs.size)).get? b = some o := fun b o e => Heap.get?_push_of_some _ (Heap.get?_push_of_some _ e)
  have hget : ((hp.push (kdv_tup rest)).push (excO C hp.objs.size)).get? (hp.objs.size + 1) = some (excO C hp.objs.size) := by heap_get
  have hnx : K.lookup (hp.objs.size + 1) = none := by
    cases e : K.lookup (hp.objs.size + 1) with
    | none => rfl
    | some o =>
      have z : hp.get? (hp.objs.size + 1) = some o := X _ _ e
      exact absurd (Nat.lt_of_succ_lt (Heap.lt_size z)) (Nat.lt_irrefl _)
  refine Tw.run_call F.excBase_ValueError (fun X => refsVE_contains X bm hbm) (X _ _ hC) (looks_findIn X T.iC) (fun self => bind_fn X self T.tC) hl ?_
  refine low_init (s := ⟨(hp.push (kdv_tup rest)).push (excO C hp.objs.size), g, dr, tk, os⟩) T (X.keeps k) (hlim.keeps k) hget hnx hroom (hag _) fun h' tk' dx ⟨k', hx, dn, dne, hns⟩ => ?_
  have old : ∀ b o, hp.get? b = some o → h'.get? b = some o := fun b o e => k' b o (Nat.ne_of_lt (Nat.lt_succ_of_lt (Heap.lt_size e))) (k b o e)
  have z : hp.objs.size + 1 + 1 ≤ dx := by
    first
      | (simpa only [Heap.size_push] using dn)
      | exact dn
      | (have q := dn; rw [Heap.size_push, Heap.size_push] at q; exact q)
  exact ⟨rfl, hq h' tk' (hp.objs.size + 1) dx hp.objs.size ⟨old, Nat.le_succ _, hx, Nat.le_trans (Nat.le_trans (Nat.le_succ _) (Nat.le_succ _)) z, dne, hns⟩⟩
end
end LowG
end PySem
namespace PySem
namespace LowI
open PySem.W PySem.Calls PyProof.Rows PySem.HandSPX LowK
/-! ### the text of __init__ -/
def iA (p1 p2 : Pos) : Arguments := { posonlyargs := [], args := [{ arg := "self", annotation := none, pos := p1 }, { arg := "index", annotation := none, pos := p2 }], vararg := none, kwonlyargs := [], kw_defaults := [], kwarg := none, defaults := [] }
def iB (q1 q2 q3 q4 : Pos) : List Stmt := [.Assign [.Attribute (.Name "self" q1) "index" q2] (.Name "index" q3) q4]
def iS : Scope := { kind := .function, names := [(PySem.Str.ofString "self", .local), (PySem.Str.ofString "index", .local)], isGenerator := false, isCoroutine := false, more := [] }
/-- what the written part says of Low, at C, and of its __init__, at fI -/
structure LowTxt (K : Frag) (mg : Str → Option Value) (cn qn : Str) (C fI : Addr) : Prop where
  gC : mg cn = some (.ref C)
  cls : ∃ nm q N bs bm sn sub ab col dd k0 k1 k2 k3 k5, K.lookup C = some (excClassObj nm q C N bs bm true sn sub ab col dd k0 k1 k2 k3 k5 "ValueError.__new__") ∧ refsVE bm = true
  sa : findIn K (.ref C) "__setattr__" = some (some (.builtin "object.__setattr__"))
  ga : findIn K (.ref C) "__getattribute__" = some (some (.builtin "BaseException.__getattribute__"))
  gg : findIn K (.ref C) "__getattr__" = some none
  noN : findIn K (.ref C) "index" = some none
  iC : findIn K (.ref C) "__init__" = some (some (.ref fI))
  tC : typeIn K (.ref fI) = some (.type "function")
  kC : keepIn K (.ref C) = true
  exC : subIn K (.ref C) (.type "BaseException") = some true
  tyC : typeIn K (.ref C) = some (.type "type")
  hdC : hasDictIn K C = true
  fn : ∃ (oc : Value) (od : Option Addr) (doc pm : Value) (an : Option Addr) (cdv ct : Value) (osl : Array (Option Value)) (p1 p2 q1 q2 q3 q4 : Pos),
    K.lookup fI = some ⟨oc, od, .func (fnOf "__init__" qn (iA p1 p2) (iB q1 q2 q3 q4) iS .none .none doc pm an cdv ct), osl⟩ ∧ codeIn K cdv qn = true
/-- what __init__ leaves of a fresh exception at x -/
structure InitEnd (h h' : Heap) (x C dx t1 : Addr) (v : Value) : Prop where
  keep : ∀ b o, b ≠ x → h.get? b = some o → h'.get? b = some o
  obj : h'.get? x = some { cls := .ref C, dict := some dx, data := .fields #[.ref t1, .none, .none, .none, .bool false, .none] }
  dbig : h.objs.size ≤ dx
  dne : dx ≠ x
  ns : h'.Ns1 dx (fun y => if y = "index" then some v else none)
section
variable {prog : Program} {w : World} {A : Around} {E : Value → Shared → Prop} {R : Result → Shared → Prop} {s : Shared} {K : Frag} {mg : Str → Option Value} {cn qn : Str} {C fI : Addr}
theorem low_init (T : LowTxt K mg cn qn C fI) {x t0 : Addr} {v : Value} (X : K.In s.heap) (hlim : s.heap.NoLimit) (hx : s.heap.get? x = some (excO C t0)) (hnx : K.lookup x = none) (hroom : A.depth < recursionLimit) {ag : Args} (hag : ∀ (doc pm cdv ct : Value) (an : Option Addr) (p1 p2 q1 q2 q3 q4 : Pos), bindArgs (fnOf "__init__" qn (iA p1 p2) (iB q1 q2 q3 q4) iS .none .none doc pm an cdv ct) ag = pure [(("self" : Str), Value.ref x), (("index" : Str), v)])
    (hq : ∀ h' tk dx, InitEnd s.heap h' x C dx t0 v → R (.ok (.ret .none)) { s with heap := h', toks := tk }) :
    codeAny (model prog w) A (.call (.ref fI) ag) R s := by
  obtain ⟨oc, od, doc, pm, an, cdv, ct, osl, p1, p2, q1, q2, q3, q4, ho, hcd⟩ := T.fn
  obtain ⟨nm, q, N, bs, bm, sn, sub, ab, col, dd, k0, k1, k2, k3, k5, hC, hbm⟩ := T.cls
  have hcl : clsIn K C = some { name := nm, bases := bs, mro := .ref C :: bm, ns := N, qualname := q, hasDict := true, slotNames := sn, subclasses := sub, abstract := ab, collection := col, hasDel := false } := by unfold clsIn; rw [hC] <;> rfl
  refine Att.call_fn (binds := [("self", .ref x), ("index", v)]) X hlim ho hcd hroom (BindsTo.of_eq (hag _ _ _ _ _ _ _ _ _ _ _)) (by first | rfl | decide | with_unfolding_all rfl) (fun s₁ IC => ?_) rfl rfl rfl
  obtain ⟨h₁, tk₁, rfl⟩ := IC.toInCall.same
  have k : ∀ b o, s.heap.get? b = some o → h₁.get? b = some o := IC.toInCall.keep
  have hn := IC.toInCall.ns
  have hxL : s.heap.objs.size ≠ x := Nat.ne_of_gt (Heap.lt_size hx)
  have X₁ : K.In h₁ := X.keeps k
  have hx₁ := k _ _ hx
  -- self.by = by
  show wpAny _ _ (execs _ _) _ _ _
  refine wpAny_execs_cons (plainObj_wpAny_Assign_Attribute ?_)
  refine ldC (v := v) hn (by first | rfl | with_unfolding_all rfl | kernel_rfl) (ldC (v := .ref x) hn (by first | rfl | with_unfolding_all rfl | kernel_rfl) ?_)
  refine set_plain X₁ (ox := excO C t0) (od := none) ⟨hx₁, rfl, rfl, trivial⟩ T.sa ?_
  refine exc_osa X₁ hx₁ hcl (show refsVE (.ref C :: bm) = true from hbm) rfl T.noN (fun h₃ tk₃ dx k₃ dn dne hx₃ hn₃ => ?_)
  show wpAny _ _ (execs _ _) _ _ _
  have z : s.heap.objs.size < h₁.objs.size := hn.lt
  exact wpAny_execs_nil (hq h₃ tk₃ dx ⟨fun b o hb e => k₃ b o hb (k b o e), hx₃, Nat.le_of_lt (Nat.lt_of_lt_of_le z dn), dne, hn₃⟩)

/-- a made exception -/
structure Made (h h' : Heap) (e C d t0 : Addr) (v : Value) : Prop where
  keep : ∀ b o, h.get? b = some o → h'.get? b = some o
  new : h.objs.size ≤ e
  obj : h'.get? e = some { cls := .ref C, dict := some d, data := .fields #[.ref t0, .none, .none, .none, .bool false, .none] }
  dbig : h.objs.size ≤ d
  dne : d ≠ e
  ns : h'.Ns1 d (fun y => if y = "index" then some v else none)
theorem made (T : LowTxt K mg cn qn C fI) {rest : List Value} {kws : List (Str × Value)} {v : Value} (X : K.In s.heap) (hlim : s.heap.NoLimit) (hroom : A.depth + 1 < recursionLimit) (hl : rest.length ≤ sizeLine)
    (hag : ∀ (x : Addr) (doc pm cdv ct : Value) (an : Option Addr) (p1 p2 q1 q2 q3 q4 : Pos), bindArgs (fnOf "__init__" qn (iA p1 p2) (iB q1 q2 q3 q4) iS .none .none doc pm an cdv ct) { pos := .ref x :: rest, kw := kws } = pure [(("self" : Str), Value.ref x), (("index" : Str), v)])
    (hq : ∀ h' tk e d t0, Made s.heap h' e C d t0 v → R (.ok (.ret (.ref e))) { s with heap := h', toks := tk }) :
    codeAny (model prog w) A (.call (.ref C) { pos := rest, kw := kws }) R s := by
  obtain ⟨nm, q, N, bs, bm, sn, sub, ab, col, dd, k0, k1, k2, k3, k5, hC, hbm⟩ := T.cls
  obtain ⟨hp, g, dr, tk, os⟩ := s
  have k : ∀ b o, hp.get? b = some o → ((hp.push (kdv_tup rest)).push (excO C hp.objs.size)).get? b = some o := fun b o e => Heap.get?_push_of_some _ (Heap.get?_push_of_some _ e)
  have hget : ((hp.push (kdv_tup rest)).push (excO C hp.objs.size)).get? (hp.objs.size + 1) = some (excO C hp.objs.size) := by heap_get
  have hnx : K.lookup (hp.objs.size + 1) = none := by
    cases e : K.lookup (hp.objs.size + 1) with
    | none => rfl
    | some o =>
      have z : hp.get? (hp.objs.size + 1) = some o := X _ _ e
      exact absurd (Nat.lt_of_succ_lt (Heap.lt_size z)) (Nat.lt_irrefl _)
  refine Tw.run_call F.excBase_ValueError (fun X => refsVE_contains X bm hbm) (X _ _ hC) (looks_findIn X T.iC) (fun self => bind_fn X self T.tC) hl ?_
  refine low_init (s := ⟨(hp.push (kdv_tup rest)).push (excO C hp.objs.size), g, dr, tk, os⟩) T (X.keeps k) (hlim.keeps k) hget hnx hroom (hag _) fun h' tk' dx ⟨k', hx, dn, dne, hns⟩ => ?_
  have old : ∀ b o, hp.get? b = some o → h'.get? b = some o := fun b o e => k' b o (Nat.ne_of_lt (Nat.lt_succ_of_lt (Heap.lt_size e))) (k b o e)
  have z : hp.objs.size + 1 + 1 ≤ dx := by
    first
      | (simpa only [Heap.size_push] using dn)
      | exact dn
      | (have q := dn; rw [Heap.size_push, Heap.size_push] at q; exact q)
  exact ⟨rfl, hq h' tk' (hp.objs.size + 1) dx hp.objs.size ⟨old, Nat.le_succ _, hx, Nat.le_trans (Nat.le_trans (Nat.le_succ _) (Nat.le_succ _)) z, dne, hns⟩⟩
end
end LowI
end PySem
namespace PySem
namespace LowS
open PySem.W PySem.Calls PyProof.Rows PySem.HandSPX LowK
/-! ### the text of __init__ -/
def iA (p1 p2 : Pos) : Arguments := { posonlyargs := [], args := [{ arg := "self", annotation := none, pos := p1 }, { arg := "spot", annotation := none, pos := p2 }], vararg := none, kwonlyargs := [], kw_defaults := [], kwarg := none, defaults := [] }
def iB (q1 q2 q3 q4 : Pos) : List Stmt := [.Assign [.Attribute (.Name "self" q1) "spot" q2] (.Name "spot" q3) q4]
def iS : Scope := { kind := .function, names := [(PySem.Str.ofString "self", .local), (PySem.Str.ofString "spot", .local)], isGenerator := false, isCoroutine := false, more := [] }
/-- what the written part says of Low, at C, and of its __init__, at fI -/
structure LowTxt (K : Frag) (mg : Str → Option Value) (cn qn : Str) (C fI : Addr) : Prop where
  gC : mg cn = some (.ref C)
  cls : ∃ nm q N bs bm sn sub ab col dd k0 k1 k2 k3 k5, K.lookup C = some (excClassObj nm q C N bs bm true sn sub ab col dd k0 k1 k2 k3 k5 "ValueError.__new__") ∧ refsVE bm = true
  sa : findIn K (.ref C) "__setattr__" = some (some (.builtin "object.__setattr__"))
  ga : findIn K (.ref C) "__getattribute__" = some (some (.builtin "BaseException.__getattribute__"))
  gg : findIn K (.ref C) "__getattr__" = some none
  noN : findIn K (.ref C) "spot" = some none
  iC : findIn K (.ref C) "__init__" = some (some (.ref fI))
  tC : typeIn K (.ref fI) = some (.type "function")
  kC : keepIn K (.ref C) = true
  exC : subIn K (.ref C) (.type "BaseException") = some true
  tyC : typeIn K (.ref C) = some (.type "type")
  hdC : hasDictIn K C = true
  fn : ∃ (oc : Value) (od : Option Addr) (doc pm : Value) (an : Option Addr) (cdv ct : Value) (osl : Array (Option Value)) (p1 p2 q1 q2 q3 q4 : Pos),
    K.lookup fI = some ⟨oc, od, .func (fnOf "__init__" qn (iA p1 p2) (iB q1 q2 q3 q4) iS .none .none doc pm an cdv ct), osl⟩ ∧ codeIn K cdv qn = true
/-- what __init__ leaves of a fresh exception at x -/
structure InitEnd (h h' : Heap) (x C dx t1 : Addr) (v : Value) : Prop where
  keep : ∀ b o, b ≠ x → h.get? b = some o → h'.get? b = some o
  obj : h'.get? x = some { cls := .ref C, dict := some dx, data := .fields #[.ref t1, .none, .none, .none, .bool false, .none] }
  dbig : h.objs.size ≤ dx
  dne : dx ≠ x
  ns : h'.Ns1 dx (fun y => if y = "spot" then some v else none)
section
variable {prog : Program} {w : World} {A : Around} {E : Value → Shared → Prop} {R : Result → Shared → Prop} {s : Shared} {K : Frag} {mg : Str → Option Value} {cn qn : Str} {C fI : Addr}
theorem low_init (T : LowTxt K mg cn qn C fI) {x t0 : Addr} {v : Value} (X : K.In s.heap) (hlim : s.heap.NoLimit) (hx : s.heap.get? x = some (excO C t0)) (hnx : K.lookup x = none) (hroom : A.depth < recursionLimit) {ag : Args} (hag : ∀ (doc pm cdv ct : Value) (an : Option Addr) (p1 p2 q1 q2 q3 q4 : Pos), bindArgs (fnOf "__init__" qn (iA p1 p2) (iB q1 q2 q3 q4) iS .none .none doc pm an cdv ct) ag = pure [(("self" : Str), Value.ref x), (("spot" : Str), v)])
    (hq : ∀ h' tk dx, InitEnd s.heap h' x C dx t0 v → R (.ok (.ret .none)) { s with heap := h', toks := tk }) :
    codeAny (model prog w) A (.call (.ref fI) ag) R s := by
  obtain ⟨oc, od, doc, pm, an, cdv, ct, osl, p1, p2, q1, q2, q3, q4, ho, hcd⟩ := T.fn
  obtain ⟨nm, q, N, bs, bm, sn, sub, ab, col, dd, k0, k1, k2, k3, k5, hC, hbm⟩ := T.cls
  have hcl : clsIn K C = some { name := nm, bases := bs, mro := .ref C :: bm, ns := N, qualname := q, hasDict := true, slotNames := sn, subclasses := sub, abstract := ab, collection := col, hasDel := false } := by unfold clsIn; rw [hC] <;> rfl
  refine Att.call_fn (binds := [("self", .ref x), ("spot", v)]) X hlim ho hcd hroom (BindsTo.of_eq (hag _ _ _ _ _ _ _ _ _ _ _)) (by first | rfl | decide | with_unfolding_all rfl) (fun s₁ IC => ?_) rfl rfl rfl
  obtain ⟨h₁, tk₁, rfl⟩ := IC.toInCall.same
  have k : ∀ b o, s.heap.get? b = some o → h₁.get? b = some o := IC.toInCall.keep
  have hn := IC.toInCall.ns
  have hxL : s.heap.objs.size ≠ x := Nat.ne_of_gt (Heap.lt_size hx)
  have X₁ : K.In h₁ := X.keeps k
  have hx₁ := k _ _ hx
  -- self.by = by
  show wpAny _ _ (execs _ _) _ _ _
  refine wpAny_execs_cons (plainObj_wpAny_Assign_Attribute ?_)
  refine ldC (v := v) hn (by first | rfl | with_unfolding_all rfl | kernel_rfl) (ldC (v := .ref x) hn (by first | rfl | with_unfolding_all rfl | kernel_rfl) ?_)
  refine set_plain X₁ (ox := excO C t0) (od := none) ⟨hx₁, rfl, rfl, trivial⟩ T.sa ?_
  refine exc_osa X₁ hx₁ hcl (show refsVE (.ref C :: bm) = true from hbm) rfl T.noN (fun h₃ tk₃ dx k₃ dn dne hx₃ hn₃ => ?_)
  show wpAny _ _ (execs _ _) _ _ _
  have z : s.heap.objs.size < h₁.objs.size := hn.lt
  exact wpAny_execs_nil (hq h₃ tk₃ dx ⟨fun b o hb e => k₃ b o hb (k b o e), hx₃, Nat.le_of_lt (Nat.lt_of_lt_of_le z dn), dne, hn₃⟩)

/-- a made exception -/
structure Made (h h' : Heap) (e C d t0 : Addr) (v : Value) : Prop where
  keep : ∀ b o, h.get? b = some o → h'.get? b = some o
  new : h.objs.size ≤ e
  obj : h'.get? e = some { cls := .ref C, dict := some d, data := .fields #[.ref t0, .none, .none, .none, .bool false, .none] }
  dbig : h.objs.size ≤ d
  dne : d ≠ e
  ns : h'.Ns1 d (fun y => if y = "spot" then some v else none)
theorem made (T : LowTxt K mg cn qn C fI) {rest : List Value} {kws : List (Str × Value)} {v : Value} (X : K.In s.heap) (hlim : s.heap.NoLimit) (hroom : A.depth + 1 < recursionLimit) (hl : rest.length ≤ sizeLine)
    (hag : ∀ (x : Addr) (doc pm cdv ct : Value) (an : Option Addr) (p1 p2 q1 q2 q3 q4 : Pos), bindArgs (fnOf "__init__" qn (iA p1 p2) (iB q1 q2 q3 q4) iS .none .none doc pm an cdv ct) { pos := .ref x :: rest, kw := kws } = pure [(("self" : Str), Value.ref x), (("spot" : Str), v)])
    (hq : ∀ h' tk e d t0, Made s.heap h' e C d t0 v → R (.ok (.ret (.ref e))) { s with heap := h', toks := tk }) :
    codeAny (model prog w) A (.call (.ref C) { pos := rest, kw := kws }) R s := by
  obtain ⟨nm, q, N, bs, bm, sn, sub, ab, col, dd, k0, k1, k2, k3, k5, hC, hbm⟩ := T.cls
  obtain ⟨hp, g, dr, tk, os⟩ := s
  have k : ∀ b o, hp.get? b = some o → ((hp.push (kdv_tup rest)).push (excO C hp.objs.size)).get? b = some o := fun b o e => Heap.get?_push_of_some _ (Heap.get?_push_of_some _ e)
  have hget : ((hp.push (kdv_tup rest)).push (excO C hp.objs.size)).get? (hp.objs.size + 1) = some (excO C hp.objs.size) := by heap_get
  have hnx : K.lookup (hp.objs.size + 1) = none := by
    cases e : K.lookup (hp.objs.size + 1) with
    | none => rfl
    | some o =>
      have z : hp.get? (hp.objs.size + 1) = some o := X _ _ e
      exact absurd (Nat.lt_of_succ_lt (Heap.lt_size z)) (Nat.lt_irrefl _)
  refine Tw.run_call F.excBase_ValueError (fun X => refsVE_contains X bm hbm) (X _ _ hC) (looks_findIn X T.iC) (fun self => bind_fn X self T.tC) hl ?_
  refine low_init (s := ⟨(hp.push (kdv_tup rest)).push (excO C hp.objs.size), g, dr, tk, os⟩) T (X.keeps k) (hlim.keeps k) hget hnx hroom (hag _) fun h' tk' dx ⟨k', hx, dn, dne, hns⟩ => ?_
  have old : ∀ b o, hp.get? b = some o → h'.get? b = some o := fun b o e => k' b o (Nat.ne_of_lt (Nat.lt_succ_of_lt (Heap.lt_size e))) (k b o e)
  have z : hp.objs.size + 1 + 1 ≤ dx := by
    first
      | (simpa only [Heap.size_push] using dn)
      | exact dn
      | (have q := dn; rw [Heap.size_push, Heap.size_push] at q; exact q)
  exact ⟨rfl, hq h' tk' (hp.objs.size + 1) dx hp.objs.size ⟨old, Nat.le_succ _, hx, Nat.le_trans (Nat.le_trans (Nat.le_succ _) (Nat.le_succ _)) z, dne, hns⟩⟩
end
end LowS
end PySem

set_option Elab.async false
set_option linter.all false
set_option maxRecDepth 100000
set_option maxHeartbeats 8000000
/-! own exceptions as values -/
namespace Tw
open PySem PySem.Spec PyProof.Rows L2
/-- an own exception with its dict -/
def Xo (H : Hp) (e C : Addr) (fs : List (Str × V)) : Prop := ∃ d, H e = some (exo e C (some d)) ∧ H d = some (exd d fs)
/-- one that has none -/
def Xn (H : Hp) (e C : Addr) : Prop := H e = some (ExO (.ref C) e)
theorem Xo.kp {a : Addr} {H H' : Hp} {e C : Addr} {fs : List (Str × V)} (s : Same H H') (h : Xo H e C fs) : Xo H' e C fs := by
  obtain ⟨d, h1, h2⟩ := h
  exact ⟨d, s _ _ h1, s _ _ h2⟩
/-- what isinstance asks of the class of an exception -/
structure XcC (K : PySem.W.Frag) (C : Addr) : Prop where
  isc : (PySem.W.clsIn K C).isSome = true
  ga : PySem.W.findIn K (.ref C) "__getattribute__" = some (some (.builtin "BaseException.__getattribute__"))
  gg : PySem.W.findIn K (.ref C) "__getattr__" = some none
  exC : PySem.W.subIn K (.ref C) (.type "BaseException") = some true
  ha : PySem.W.findIn K (.ref C) "__class__" = some (some (.builtin "object.__class__"))
  hn : PySem.W.specialIn K (.builtin "object.__class__") "__get__" = some (some (.builtin "getset_descriptor.__get__"))
  ht : PySem.W.takesIn K (.builtin "object.__class__") = some true
  hm : PySem.W.mroIn K C (.type "object") = some true
/-- what e.f asks of it -/
structure XgC (K : PySem.W.Frag) (C : Addr) (f : Str) : Prop where
  ga : PySem.W.findIn K (.ref C) "__getattribute__" = some (some (.builtin "BaseException.__getattribute__"))
  gg : PySem.W.findIn K (.ref C) "__getattr__" = some none
  exC : PySem.W.subIn K (.ref C) (.type "BaseException") = some true
  noN : PySem.W.findIn K (.ref C) f = some none
  hdC : PySem.W.hasDictIn K C = true
def rIsX (K : PySem.W.Frag) : List V → Hp → VK → Prop := fun xs H Q => ∃ (e C : Addr) (c : V) (u : Value) (b : Bool), xs = [.ref e, c] ∧ ClsV c u ∧ XcC K C ∧ (Xn H e C ∨ ∃ fs, Xo H e C fs) ∧ PySem.W.kitOne K (.ref C) u = some b ∧ Q (.bl b) H
/-- e.f -/
def tGet (K : PySem.W.Frag) (f : Str) (te : TE) : TE := fun σ H Q => te σ H fun x H1 => ∃ (e C : Addr) (fs : List (Str × V)) (v : V), x = .ref e ∧ XgC K C f ∧ Xo H1 e C fs ∧ fs.lookup f = some v ∧ Q v H1
/-- C(e), C(f = e) -/
def tMk (C : Addr) (f : Str) (ta : TA) : TE := fun σ H Q => ta σ H fun vs H1 => ∃ v, vs = [v] ∧ ∀ e H2, Same H1 H2 → Xo H2 e C [(f, v)] → Q (.ref e) H2
section
variable {X : Cx}
theorem xo_at {pins : List (Addr × Obj)} {σ : L2.St} {H : Hp} {s : Shared} {e C : Addr} {fs : List (Str × V)} (I : Inv X pins σ H s) (h : Xo H e C fs) :
    ∃ (ox od : Obj) (mA : Str → Option Value), PySem.W.InstAt s.heap e ox C (some od) ∧ (∀ name, PySem.W.lookIn name od = some (mA name)) ∧ ∀ f, RelO (fs.lookup f) (mA f) := by
  obtain ⟨d, h1, h2⟩ := h
  obtain ⟨t1, ho⟩ := exo_at I.hok h1
  obtain ⟨mA, hns, rel⟩ := exd_at I.hok h2
  obtain ⟨od, hod, hl⟩ := lookIn_ns hns
  exact ⟨_, od, mA, ⟨ho, rfl, rfl, hod⟩, hl, rel⟩
theorem call_isX : CallR X (.builtin "isinstance") (rIsX X.K) := by
  intro pins s σ H xs us Q I r h
  obtain ⟨e, C, c, u, b, rfl, k, T, w, ek, q⟩ := h
  obtain ⟨u1, u2, rfl, r1, r2⟩ := vals2 r
  have e2 := k.eq r2
  subst e2
  cases r1
  have inst : ∃ ox od, PySem.W.InstAt s.heap e ox C od := by
    rcases w with w | ⟨fs, w⟩
    · obtain ⟨⟨oe, vs, ho, hz, hd, _⟩, _, _⟩ := I.hok e _ w
      refine ⟨oe, none, ho, hz.1, by unfold PySem.W.notCls; rw [hd] <;> rfl, by rw [hz.2]; trivial⟩
    · obtain ⟨ox, od, mA, J, _⟩ := xo_at I w
      exact ⟨ox, _, J⟩
  obtain ⟨ox, od, J⟩ := inst
  exact PySem.W.kia_one (PySem.W.kitx_exc T.isc T.ga T.gg T.exC T.ha T.hn T.ht T.hm) I.kIn J ek (by nofun) fun tk => ⟨.bl b, H, I.tok tk, rfl, q⟩
theorem pe_get {f : Str} {a : Expr} {te : TE} {pos : Pos} (he : PE X a te) (hb : attributeBase a f X.env (eval a X.env) = eval a X.env := by rfl) : PE X (.Attribute a f pos) (tGet X.K f te) := by
  refine ⟨fun pins s σ H Q I h => ?_⟩
  refine attr_of hb (thn (he.run pins s σ H _ I h) fun u s1 hh => ?_)
  obtain ⟨x, H1, I1, rx, e, C, fs, v, ex, T, w, hv, q⟩ := hh
  subst ex
  obtain rfl : u = Value.ref e := rx
  obtain ⟨ox, od, mA, J, hl, rel⟩ := xo_at I1 w
  obtain ⟨u2, hu, ru⟩ := RelO.some_of (v := v) (o := mA f) (by rw [← hv]; exact rel f)
  exact PySem.HandSPX.exc_get I1.kIn J T.ga T.gg T.exC (PySem.W.findObj_own T.hdC T.noN rfl (by rw [hl, hu])) (handed_of ru) ⟨v, H1, I1.tok _, ru, q⟩
theorem relO_one {f : Str} {v : V} {v' : Value} (r : RelV v v') (g : Str) : RelO (List.lookup g [(f, v)]) (if g = f then some v' else none) := relO_put (fs := []) (mA := fun _ => none) r (fun _ => True.intro) g
/-- behind the making: both are tracked -/
theorem mk_inv {f : Str} {pins : List (Addr × Obj)} {σ : L2.St} {H1 : Hp} {hp h' : Heap} {g : Array GenState} {dr : Drawn} {tk tk' : Nat} {os : OsState} {e C d t0 : Addr} {v : V} {v' : Value} {Q : VK} (I1 : Inv X pins σ H1 ⟨hp, g, dr, tk, os⟩) (rv : RelV v v')
    (keep : ∀ b o, hp.get? b = some o → h'.get? b = some o) (new : hp.objs.size ≤ e) (obj : h'.get? e = some { cls := .ref C, dict := some d, data := .fields #[.ref t0, .none, .none, .none, .bool false, .none] }) (dbig : hp.objs.size ≤ d) (dne : d ≠ e)
    (ns : h'.Ns1 d (fun y => if y = f then some v' else none)) (q : ∀ e H2, Same H1 H2 → Xo H2 e C [(f, v)] → Q (.ref e) H2) :
    ∃ x H2, Inv X pins σ H2 ⟨h', g, dr, tk', os⟩ ∧ RelV x (.ref e) ∧ Q x H2 := by
  obtain ⟨G', g1, g2⟩ := restrict h' fun b => decide (b ≠ e)
  have gk : ∀ b, b ≠ e → G'.get? b = h'.get? b := fun b hb => g1 b (decide_eq_true hb)
  have ge : G'.get? e = none := g2 e (by simp)
  have old : ∀ b o, hp.get? b = some o → G'.get? b = some o := fun b o z => (gk b (Nat.ne_of_lt (Nat.lt_of_lt_of_le (Heap.lt_size z) new))).trans (keep b o z)
  have nd : H1 d = none := I1.hok.fresh dbig
  have ne : H1 e = none := I1.hok.fresh new
  have J : Inv X pins σ (upd H1 d (exd d [(f, v)])) ⟨G', g, dr, tk', os⟩ := I1.laid (t' := tk') old dbig (exd_ok (ns.at fun o z => (gk d dne).trans z) fun y => relO_one rv y)
  have ne2 : upd H1 d (exd d [(f, v)]) e = none := by rw [upd_ne (Ne.symm dne)]; exact ne
  have J2 := J.laidN (h' := h') (t' := tk') (a := e) (o := exo e C (some d)) (fun b u z => by
    by_cases hb : b = e
    · have z' : G'.get? b = some u := z
      rw [hb, ge] at z'; cases z'
    · exact (gk b hb).symm.trans z) ge ne2 (exo_ok obj)
  refine ⟨.ref e, _, J2, rfl, q e _ (fun b o z => ?_) ⟨d, upd_same, ?_⟩⟩
  · rw [upd_ne (ne_of_none z ne), upd_ne (ne_of_none z nd)]; exact z
  · rw [upd_ne dne, upd_same]
theorem pe_mkG {cn qn : Str} {C fI : Addr} {a : Expr} {ta : TA} {p pos : Pos} {k : Nat} (T : PySem.LowG.LowTxt X.K X.mg cn qn C fI) (hr : Room k X.A) (hk : 1 ≤ k) (hg : Gl X cn) (ha : PA X [a] ta) (hdb : (cn == ("__debug__" : Str)) = false := by decide)
    (he : starEach (a :: []) X.env = (false, eval a X.env) :: starEach [] X.env := by rfl) (hpl : (backTo pos (starEach [] X.env)).any (·.1) = false := by rfl) :
    PE X (.Call (.Name cn p) [a] [] pos) (tMk C "given" ta) := by
  refine ⟨fun pins s σ H Q I h => ?_⟩
  refine wpAny_Call_Name_kw (ld_glob I hg T.gC ?_ hdb)
  refine PySem.W.callWith_K (h₀ := X.base) I.ok.mod.kin T.kC (thn (ha.run pos pins s σ H _ I h) fun us s1 hh => ?_) he hpl
  obtain ⟨vs, H1, I1, r1, v, ev, q1⟩ := hh
  subst ev
  refine ⟨I1.kIn, ?_⟩
  obtain ⟨v', rfl, rv⟩ := vals1 r1
  show wpAny _ _ (call (.ref C) [v']) _ _ _
  have hlim := I1.nolimit
  obtain ⟨hp, g, dr, tk, os⟩ := s1
  exact wpAny_call (PySem.LowG.made T I1.kIn hlim (by have := hr.dp; omega) (sz (by simp)) (fun _ _ _ _ _ _ _ _ _ _ _ _ => rfl) fun h' tk' e d t0 M => mk_inv I1 rv M.keep M.new M.obj M.dbig M.dne M.ns q1)
theorem pe_mkGK {cn qn : Str} {C fI : Addr} {kws : List Keyword} {ta : TA} {p pos : Pos} {k : Nat} (T : PySem.LowG.LowTxt X.K X.mg cn qn C fI) (hr : Room k X.A) (hk : 1 ≤ k) (hg : Gl X cn) (ha : PK X kws ta) (hdb : (cn == ("__debug__" : Str)) = false := by decide)
    (hall : (backToKw pos (keywordEach kws X.env)).all (·.1.isSome) = true := by rfl) (hks : (backToKw pos (keywordEach kws X.env)).filterMap (·.1) = [("given" : Str)] := by rfl)
    (hpl : ((backTo pos (starEach [] X.env)).any (·.1) || (backToKw pos (keywordEach kws X.env)).any (·.1.isNone)) = false := by rfl) :
    PE X (.Call (.Name cn p) [] kws pos) (tMk C "given" ta) := by
  refine ⟨fun pins s σ H Q I h => ?_⟩
  refine wpAny_Call_Name_kw (ld_glob I hg T.gC ?_ hdb)
  refine PySem.W.callWith_KW0 (h₀ := X.base) I.ok.mod.kin T.kC hall (thn (ha.run pos pins s σ H _ I h) fun us s1 hh => ?_) hpl
  obtain ⟨vs, H1, I1, r1, v, ev, q1⟩ := hh
  subst ev
  rw [hks]
  refine ⟨I1.kIn, ?_⟩
  obtain ⟨v', rfl, rv⟩ := vals1 r1
  show wpAny _ _ (call (.ref C) [] [(("given" : Str), v')]) _ _ _
  have hlim := I1.nolimit
  obtain ⟨hp, g, dr, tk, os⟩ := s1
  exact wpAny_call (PySem.LowG.made T I1.kIn hlim (by have := hr.dp; omega) (sz (by simp)) (fun _ _ _ _ _ _ _ _ _ _ _ _ => by rfl) fun h' tk' e d t0 M => mk_inv I1 rv M.keep M.new M.obj M.dbig M.dne M.ns q1)
theorem pe_mkI {cn qn : Str} {C fI : Addr} {a : Expr} {ta : TA} {p pos : Pos} {k : Nat} (T : PySem.LowI.LowTxt X.K X.mg cn qn C fI) (hr : Room k X.A) (hk : 1 ≤ k) (hg : Gl X cn) (ha : PA X [a] ta) (hdb : (cn == ("__debug__" : Str)) = false := by decide)
    (he : starEach (a :: []) X.env = (false, eval a X.env) :: starEach [] X.env := by rfl) (hpl : (backTo pos (starEach [] X.env)).any (·.1) = false := by rfl) :
    PE X (.Call (.Name cn p) [a] [] pos) (tMk C "index" ta) := by
  refine ⟨fun pins s σ H Q I h => ?_⟩
  refine wpAny_Call_Name_kw (ld_glob I hg T.gC ?_ hdb)
  refine PySem.W.callWith_K (h₀ := X.base) I.ok.mod.kin T.kC (thn (ha.run pos pins s σ H _ I h) fun us s1 hh => ?_) he hpl
  obtain ⟨vs, H1, I1, r1, v, ev, q1⟩ := hh
  subst ev
  refine ⟨I1.kIn, ?_⟩
  obtain ⟨v', rfl, rv⟩ := vals1 r1
  show wpAny _ _ (call (.ref C) [v']) _ _ _
  have hlim := I1.nolimit
  obtain ⟨hp, g, dr, tk, os⟩ := s1
  exact wpAny_call (PySem.LowI.made T I1.kIn hlim (by have := hr.dp; omega) (sz (by simp)) (fun _ _ _ _ _ _ _ _ _ _ _ _ => rfl) fun h' tk' e d t0 M => mk_inv I1 rv M.keep M.new M.obj M.dbig M.dne M.ns q1)
theorem pe_mkIK {cn qn : Str} {C fI : Addr} {kws : List Keyword} {ta : TA} {p pos : Pos} {k : Nat} (T : PySem.LowI.LowTxt X.K X.mg cn qn C fI) (hr : Room k X.A) (hk : 1 ≤ k) (hg : Gl X cn) (ha : PK X kws ta) (hdb : (cn == ("__debug__" : Str)) = false := by decide)
    (hall : (backToKw pos (keywordEach kws X.env)).all (·.1.isSome) = true := by rfl) (hks : (backToKw pos (keywordEach kws X.env)).filterMap (·.1) = [("index" : Str)] := by rfl)
    (hpl : ((backTo pos (starEach [] X.env)).any (·.1) || (backToKw pos (keywordEach kws X.env)).any (·.1.isNone)) = false := by rfl) :
    PE X (.Call (.Name cn p) [] kws pos) (tMk C "index" ta) := by
  refine ⟨fun pins s σ H Q I h => ?_⟩
  refine wpAny_Call_Name_kw (ld_glob I hg T.gC ?_ hdb)
  refine PySem.W.callWith_KW0 (h₀ := X.base) I.ok.mod.kin T.kC hall (thn (ha.run pos pins s σ H _ I h) fun us s1 hh => ?_) hpl
  obtain ⟨vs, H1, I1, r1, v, ev, q1⟩ := hh
  subst ev
  rw [hks]
  refine ⟨I1.kIn, ?_⟩
  obtain ⟨v', rfl, rv⟩ := vals1 r1
  show wpAny _ _ (call (.ref C) [] [(("index" : Str), v')]) _ _ _
  have hlim := I1.nolimit
  obtain ⟨hp, g, dr, tk, os⟩ := s1
  exact wpAny_call (PySem.LowI.made T I1.kIn hlim (by have := hr.dp; omega) (sz (by simp)) (fun _ _ _ _ _ _ _ _ _ _ _ _ => by rfl) fun h' tk' e d t0 M => mk_inv I1 rv M.keep M.new M.obj M.dbig M.dne M.ns q1)
theorem pe_mkS {cn qn : Str} {C fI : Addr} {a : Expr} {ta : TA} {p pos : Pos} {k : Nat} (T : PySem.LowS.LowTxt X.K X.mg cn qn C fI) (hr : Room k X.A) (hk : 1 ≤ k) (hg : Gl X cn) (ha : PA X [a] ta) (hdb : (cn == ("__debug__" : Str)) = false := by decide)
    (he : starEach (a :: []) X.env = (false, eval a X.env) :: starEach [] X.env := by rfl) (hpl : (backTo pos (starEach [] X.env)).any (·.1) = false := by rfl) :
    PE X (.Call (.Name cn p) [a] [] pos) (tMk C "spot" ta) := by
  refine ⟨fun pins s σ H Q I h => ?_⟩
  refine wpAny_Call_Name_kw (ld_glob I hg T.gC ?_ hdb)
  refine PySem.W.callWith_K (h₀ := X.base) I.ok.mod.kin T.kC (thn (ha.run pos pins s σ H _ I h) fun us s1 hh => ?_) he hpl
  obtain ⟨vs, H1, I1, r1, v, ev, q1⟩ := hh
  subst ev
  refine ⟨I1.kIn, ?_⟩
  obtain ⟨v', rfl, rv⟩ := vals1 r1
  show wpAny _ _ (call (.ref C) [v']) _ _ _
  have hlim := I1.nolimit
  obtain ⟨hp, g, dr, tk, os⟩ := s1
  exact wpAny_call (PySem.LowS.made T I1.kIn hlim (by have := hr.dp; omega) (sz (by simp)) (fun _ _ _ _ _ _ _ _ _ _ _ _ => rfl) fun h' tk' e d t0 M => mk_inv I1 rv M.keep M.new M.obj M.dbig M.dne M.ns q1)
theorem pe_mkSK {cn qn : Str} {C fI : Addr} {kws : List Keyword} {ta : TA} {p pos : Pos} {k : Nat} (T : PySem.LowS.LowTxt X.K X.mg cn qn C fI) (hr : Room k X.A) (hk : 1 ≤ k) (hg : Gl X cn) (ha : PK X kws ta) (hdb : (cn == ("__debug__" : Str)) = false := by decide)
    (hall : (backToKw pos (keywordEach kws X.env)).all (·.1.isSome) = true := by rfl) (hks : (backToKw pos (keywordEach kws X.env)).filterMap (·.1) = [("spot" : Str)] := by rfl)
    (hpl : ((backTo pos (starEach [] X.env)).any (·.1) || (backToKw pos (keywordEach kws X.env)).any (·.1.isNone)) = false := by rfl) :
    PE X (.Call (.Name cn p) [] kws pos) (tMk C "spot" ta) := by
  refine ⟨fun pins s σ H Q I h => ?_⟩
  refine wpAny_Call_Name_kw (ld_glob I hg T.gC ?_ hdb)
  refine PySem.W.callWith_KW0 (h₀ := X.base) I.ok.mod.kin T.kC hall (thn (ha.run pos pins s σ H _ I h) fun us s1 hh => ?_) hpl
  obtain ⟨vs, H1, I1, r1, v, ev, q1⟩ := hh
  subst ev
  rw [hks]
  refine ⟨I1.kIn, ?_⟩
  obtain ⟨v', rfl, rv⟩ := vals1 r1
  show wpAny _ _ (call (.ref C) [] [(("spot" : Str), v')]) _ _ _
  have hlim := I1.nolimit
  obtain ⟨hp, g, dr, tk, os⟩ := s1
  exact wpAny_call (PySem.LowS.made T I1.kIn hlim (by have := hr.dp; omega) (sz (by simp)) (fun _ _ _ _ _ _ _ _ _ _ _ _ => by rfl) fun h' tk' e d t0 M => mk_inv I1 rv M.keep M.new M.obj M.dbig M.dne M.ns q1)
/-- C(), C without an own __init__ -/
theorem pe_exc0 {C : Addr} {mb : List Value} {B nw ini : String} {x : Str} {p pos : Pos} (F : ExcBaseFacts B nw ini mb) (qc : PySem.W.excIn X.K C mb nw = true) (gC : X.mg x = some (.ref C)) (kC : PySem.W.keepIn X.K (.ref C) = true) (hg : Gl X x) (hdb : (x == ("__debug__" : Str)) = false := by decide) :
    PE X (.Call (.Name x p) [] [] pos) (fun σ H Q => ∀ e, H e = none → Q (.ref e) (upd H e (ExO (.ref C) e))) := by
  refine ⟨fun pins s σ H Q I h => ?_⟩
  refine wpAny_Call_Name_kw (ld_glob I hg gC ?_ hdb)
  refine PySem.W.callWith_K0 I.kIn kC ?_
  show wpAny _ _ (call (.ref C) []) _ _ _
  obtain ⟨hp, g, dr, tk, os⟩ := s
  obtain ⟨bm, N, nm, qn, bs, hdct, sn, sub, ab, col, dd, k0, k1, k2, k3, k5, mN, hC, hN, hni, T⟩ := exc_obj I.kIn qc
  refine wpAny_call_exc_subT F T hC hN hni (fun h' e hm => ?_) (by rw [sizeLine_eq]; decide)
  have hn : H e = none := I.hok.gone hm.new
  obtain ⟨t, ht, _, _⟩ := hm.there
  exact ⟨.ref e, _, I.laidN hm.keeps hm.new hn (exO_ok ht ⟨rfl, rfl⟩ rfl rfl rfl (show 4 < 6 by decide)), rfl, h e hn⟩
end
end Tw

set_option linter.all false
set_option maxRecDepth 10000
/-! numbers, rows, polys: what the answers are -/
namespace K01
/-- without the last items that z holds of -/
def trimBy {α : Type} (z : α → Bool) : List α → List α
  | [] => []
  | a :: l => match trimBy z l with
    | [] => if z a then [] else [a]
    | b :: r => a :: b :: r
theorem trimBy_take {α : Type} (z : α → Bool) : ∀ (l : List α) (k : Nat), k ≤ l.length → (∀ i a, k ≤ i → l[i]? = some a → z a = true) → (k = 0 ∨ ∃ a, l[k - 1]? = some a ∧ z a = false) → trimBy z l = l.take k
  | [], k, hk, _, _ => by simp [trimBy]
  | a :: l, 0, _, h1, _ => by
    have ih := trimBy_take z l 0 (Nat.zero_le _) (fun i b _ e => h1 (i + 1) b (Nat.zero_le _) (by simpa using e)) (.inl rfl)
    have za := h1 0 a (Nat.le_refl _) rfl
    simp [trimBy, ih, za]
  | a :: l, 1, _, h1, h2 => by
    have ih := trimBy_take z l 0 (Nat.zero_le _) (fun i b _ e => h1 (i + 1) b (by omega) (by simpa using e)) (.inl rfl)
    have za : z a = false := by
      rcases h2 with h2 | ⟨b, e, f⟩
      · cases h2
      · simp at e; subst e; exact f
    simp [trimBy, ih, za]
  | a :: l, k + 2, hk, h1, h2 => by
    have hk' : k + 1 ≤ l.length := by rw [List.length_cons] at hk; omega
    have ih := trimBy_take z l (k + 1) hk' (fun i b hi e => h1 (i + 1) b (by omega) (by simpa using e)) (by
      rcases h2 with h2 | ⟨b, e, f⟩
      · cases h2
      · exact .inr ⟨b, by simpa using e, f⟩)
    have hn : l.take (k + 1) ≠ [] := by
      intro e
      have := congrArg List.length e
      rw [List.length_take, List.length_nil] at this
      omega
    rw [trimBy, ih]
    cases e : l.take (k + 1) with
    | nil => exact absurd e hn
    | cons b r => simp [e]
theorem trimBy_len {α : Type} (z : α → Bool) : ∀ l : List α, (trimBy z l).length ≤ l.length
  | [] => Nat.le_refl _
  | a :: l => by
    have := trimBy_len z l
    rw [trimBy]
    split
    · split <;> simp
    · rename_i b r e
      rw [e] at this
      simpa using this
theorem trimBy_mem {α : Type} (z : α → Bool) {x : α} : ∀ l : List α, x ∈ trimBy z l → x ∈ l
  | [], h => h
  | a :: l, h => by
    have ih := trimBy_mem z (x := x) l
    rw [trimBy] at h
    split at h
    · split at h
      · simp at h
      · simp at h; simp [h]
    · rename_i b r e
      rw [e] at ih
      rcases List.mem_cons.mp h with h | h
      · simp [h]
      · exact List.mem_cons_of_mem _ (ih h)
theorem trimBy_last {α : Type} (z : α → Bool) {x : α} : ∀ l : List α, (trimBy z l).getLast? = some x → z x = false
  | [], h => by simp [trimBy] at h
  | a :: l, h => by
    have ih := trimBy_last z (x := x) l
    rw [trimBy] at h
    split at h
    · split at h
      · simp at h
      · rename_i hz
        simp at h; subst h; simpa using hz
    · rename_i b r e
      rw [e] at ih
      exact ih (by simpa using h)
abbrev trimI (l : List Int) : List Int := trimBy (fun c => c == 0) l
abbrev trimP (p : List (List Int)) : List (List Int) := trimBy (fun r => r.isEmpty) p
/-- a row, a poly -/
def okR (r : List Int) : Prop := ∀ c, r.getLast? = some c → c ≠ 0
def okP (p : List (List Int)) : Prop := (∀ r ∈ p, okR r) ∧ ∀ r, p.getLast? = some r → r ≠ []
theorem okR_trim (l : List Int) : okR (trimI l) := fun c h => by
  have := trimBy_last _ _ h
  simpa using this
theorem okP_trim {p : List (List Int)} (h : ∀ r ∈ p, okR r) : okP (trimP p) := ⟨fun r hr => h r (trimBy_mem _ _ hr), fun r hr => by
  have := trimBy_last _ _ hr
  intro e
  subst e
  simp at this⟩
/-- at most n long, numbers at most b -/
def Bd (n : Nat) (b : Nat) (p : List (List Int)) : Prop := p.length ≤ n ∧ ∀ r ∈ p, r.length ≤ n ∧ ∀ c ∈ r, c.natAbs ≤ b
def T (n m : Int) : List Int → Int
  | [] => 0
  | c :: r => T n m r * n + c * m ^ r.length
def lng : List (List Int) → Nat
  | [] => 0
  | r :: p => max r.length (lng p)
theorem lng_le {r : List Int} : ∀ {p : List (List Int)}, r ∈ p → r.length ≤ lng p
  | a :: p, h => by
    rw [lng]
    rcases List.mem_cons.mp h with rfl | h
    · exact Nat.le_max_left _ _
    · exact Nat.le_trans (lng_le h) (Nat.le_max_right _ _)
theorem lng_bd {n : Nat} : ∀ {p : List (List Int)}, (∀ r ∈ p, r.length ≤ n) → lng p ≤ n
  | [], _ => Nat.zero_le _
  | r :: p, h => by
    rw [lng]
    exact Nat.max_le.mpr ⟨h r (by simp), lng_bd fun a ha => h a (by simp [ha])⟩
def numAt (n m : Int) (L : Nat) (r : List Int) : Int := T n m r * m ^ (L - r.length)
def nums (n m : Int) (p : List (List Int)) : List Int := p.map (numAt n m (lng p))
/-- what numbers and M share -/
def G : Nat → List Int → Nat
  | M, [] => M
  | M, x :: l => G (Nat.gcd M x.natAbs) l
def mm (m : Int) (k : Nat) : Nat := m.natAbs ^ k
def atx (n m : Int) (p : List (List Int)) : List Int := trimI ((nums n m p).map fun x => x / (G (mm m (lng p - 1)) (nums n m p) : Int))
def col (p : List (List Int)) (k : Nat) : List Int := trimI (p.map fun r => r.getD k 0)
def exch (p : List (List Int)) : List (List Int) := trimP ((List.range (lng p)).map (col p))
theorem okP_exch (p : List (List Int)) : okP (exch p) := okP_trim fun r hr => by
  obtain ⟨k, _, rfl⟩ := List.mem_map.mp hr
  exact okR_trim _
theorem bd_exch {n b : Nat} {p : List (List Int)} (h : Bd n b p) : Bd n b (exch p) := by
  refine ⟨Nat.le_trans (trimBy_len _ _) (by rw [List.length_map, List.length_range]; exact lng_bd fun r hr => (h.2 r hr).1), fun r hr => ?_⟩
  obtain ⟨k, _, rfl⟩ := List.mem_map.mp (trimBy_mem _ _ hr)
  refine ⟨Nat.le_trans (trimBy_len _ _) (by rw [List.length_map]; exact h.1), fun c hc => ?_⟩
  obtain ⟨r, hr, rfl⟩ := List.mem_map.mp (trimBy_mem _ _ hc)
  rw [List.getD_eq_getElem?_getD]
  cases e : r[k]? with
  | none => simp
  | some x => exact (h.2 r hr).2 x (List.mem_of_getElem? e)
theorem G_append : ∀ (M : Nat) (l : List Int) (x : Int), G M (l ++ [x]) = Nat.gcd (G M l) x.natAbs
  | M, [], x => rfl
  | M, y :: l, x => by
    show G _ (l ++ [x]) = Nat.gcd (G _ l) x.natAbs
    exact G_append _ l x
theorem G_dvd : ∀ (l : List Int) (M : Nat), G M l ∣ M
  | [], M => Nat.dvd_refl _
  | x :: l, M => Nat.dvd_trans (G_dvd l _) (Nat.gcd_dvd_left _ _)
theorem G_mem {y : Int} : ∀ (l : List Int) (M : Nat), y ∈ l → G M l ∣ y.natAbs
  | x :: l, M, h => by
    rcases List.mem_cons.mp h with rfl | h
    · exact Nat.dvd_trans (G_dvd l _) (Nat.gcd_dvd_right _ _)
    · exact G_mem l _ h
theorem G_gcd : ∀ (l : List Int) (a M : Nat), Nat.gcd (G a l) M = G (Nat.gcd a M) l
  | [], a, M => rfl
  | x :: l, a, M => by
    show Nat.gcd (G (Nat.gcd a x.natAbs) l) M = G (Nat.gcd (Nat.gcd a M) x.natAbs) l
    rw [G_gcd l, Nat.gcd_assoc, Nat.gcd_comm x.natAbs M, ← Nat.gcd_assoc]
theorem G_one (l : List Int) : G 1 l = 1 := Nat.eq_one_of_dvd_one (G_dvd l 1)
/-- the program's share -/
theorem G_zero (l : List Int) (M : Nat) : Nat.gcd (G 0 l) M = G M l := by rw [G_gcd, Nat.gcd_zero_left]
/-- a over b is N over D, b positive, nothing shared -/
def Lo (a b N D : Int) : Prop := 0 < b ∧ Nat.gcd a.natAbs b.natAbs = 1 ∧ a * D = N * b
theorem lo_share {a b N D : Int} (h : Lo a b N D) (d : 0 < D) : b * (Nat.gcd N.natAbs D.natAbs : Int) = D ∧ a * (Nat.gcd N.natAbs D.natAbs : Int) = N := by
  obtain ⟨b0, c, e⟩ := h
  have dv : b ∣ D := by
    have h1 : b.natAbs ∣ a.natAbs * D.natAbs := by
      rw [← Int.natAbs_mul, e, Int.natAbs_mul]
      exact Nat.dvd_mul_left _ _
    have h2 : b.natAbs ∣ D.natAbs := (Nat.Coprime.dvd_of_dvd_mul_left (Nat.coprime_comm.mp c) h1)
    exact Int.natAbs_dvd_natAbs.mp h2
  obtain ⟨k, rfl⟩ := dv
  have k0 : 0 < k := by
    rcases Int.lt_or_le 0 k with z | z
    · exact z
    · have := Int.mul_le_mul_of_nonneg_left z (Int.le_of_lt b0)
      rw [Int.mul_zero] at this
      omega
  have eN : N = a * k := by
    have h3 : (a * k) * b = N * b := by rw [← e, Int.mul_assoc, Int.mul_comm k b]
    exact (Int.eq_of_mul_eq_mul_right (by omega) h3).symm
  subst eN
  have g : (Nat.gcd (a * k).natAbs (b * k).natAbs : Int) = k := by
    rw [Int.natAbs_mul, Int.natAbs_mul, Nat.gcd_mul_right, c, Nat.one_mul]
    omega
  rw [g]
  exact ⟨rfl, rfl⟩
/-- the least common multiple's step -/
theorem lcm_step {l g b h M : Nat} (m0 : 0 < M) (e1 : l * g = M) (e2 : b * h = M) : (l * b / Nat.gcd l b) * Nat.gcd g h = M := by
  have hl : l ∣ M := ⟨g, e1.symm⟩
  have l0 : 0 < l := Nat.pos_of_dvd_of_pos hl m0
  have d0 : 0 < Nat.gcd l b := Nat.gcd_pos_of_pos_left _ l0
  have q : (l * b / Nat.gcd l b) * Nat.gcd l b = l * b := Nat.div_mul_cancel (Nat.dvd_trans (Nat.gcd_dvd_left l b) (Nat.dvd_mul_right _ _))
  have k : Nat.gcd g h * (l * b) = M * Nat.gcd l b := by
    rw [← Nat.gcd_mul_right]
    have a1 : g * (l * b) = M * b := by rw [← e1, ← Nat.mul_assoc, Nat.mul_comm g l]
    have a2 : h * (l * b) = M * l := by rw [← e2, Nat.mul_comm l b, ← Nat.mul_assoc, Nat.mul_comm h b]
    rw [a1, a2, Nat.gcd_mul_left, Nat.gcd_comm b l]
  refine Nat.eq_of_mul_eq_mul_right d0 ?_
  rw [Nat.mul_assoc, Nat.mul_comm (Nat.gcd g h), ← Nat.mul_assoc, q, Nat.mul_comm (l * b), k]
theorem pow_pos' {m : Int} (h : 0 < m) : ∀ k : Nat, 0 < m ^ k
  | 0 => by simp
  | k + 1 => by rw [Int.pow_succ]; exact Int.mul_pos (pow_pos' h k) h
theorem mm_eq {m : Int} (h : 0 < m) (k : Nat) : ((mm m k : Nat) : Int) = m ^ k := by
  unfold mm
  rw [Int.natCast_pow, Int.natAbs_of_nonneg (Int.le_of_lt h)]
/-- a row's worth, over the common base -/
theorem lo_at {n m a b : Int} {r : List Int} {L : Nat} (m0 : 0 < m) (hl : r.length ≤ L) (h : Lo a b (T n m r * m) (m ^ r.length)) : Lo a b (numAt n m L r) (m ^ (L - 1)) := by
  refine ⟨h.1, h.2.1, ?_⟩
  have e := h.2.2
  unfold numAt
  cases hr : r with
  | nil =>
    subst hr
    have : a = 0 := by simpa [T] using e
    simp [T, this]
  | cons c s =>
    rw [← hr]
    have l1 : r.length = s.length + 1 := by rw [hr]; rfl
    have e2 : a * m ^ s.length = T n m r * b := by
      rw [l1, Int.pow_succ] at e
      refine Int.eq_of_mul_eq_mul_right (a := m) (by omega) ?_
      rw [Int.mul_assoc, e, Int.mul_assoc, Int.mul_comm m b, Int.mul_assoc]
    have e3 : L - 1 = s.length + (L - r.length) := by omega
    rw [e3, Int.pow_add, ← Int.mul_assoc, e2, Int.mul_assoc, Int.mul_comm b, ← Int.mul_assoc]
/-! sizes -/
theorem T_le {n m : Int} {B : Nat} (hn : n.natAbs ≤ 12) (m0 : m.natAbs ≤ 7) : ∀ r : List Int, (∀ c ∈ r, c.natAbs ≤ B) → (T n m r).natAbs ≤ B * 20 ^ r.length
  | [], _ => by simp [T]
  | c :: r, h => by
    have ih := T_le hn m0 r fun d hd => h d (by simp [hd])
    have hc := h c (by simp)
    rw [T]
    refine Nat.le_trans (Int.natAbs_add_le _ _) ?_
    rw [Int.natAbs_mul, Int.natAbs_mul, Int.natAbs_pow, List.length_cons, Nat.pow_succ]
    have a1 : (T n m r).natAbs * n.natAbs ≤ B * 20 ^ r.length * 12 := Nat.mul_le_mul ih hn
    have a2 : c.natAbs * m.natAbs ^ r.length ≤ B * 20 ^ r.length := Nat.mul_le_mul hc (Nat.le_trans (Nat.pow_le_pow_left m0 _) (Nat.pow_le_pow_left (by omega) _))
    have a3 : B * (20 ^ r.length * 20) = B * 20 ^ r.length * 20 := by rw [Nat.mul_assoc]
    omega
theorem num_le {n m : Int} {B L : Nat} (hn : n.natAbs ≤ 12) (m0 : m.natAbs ≤ 7) (hL : L ≤ 10) {r : List Int} (hr : r.length ≤ 10) (h : ∀ c ∈ r, c.natAbs ≤ B) : (numAt n m L r).natAbs ≤ B * 20 ^ 10 * 7 ^ 10 := by
  unfold numAt
  rw [Int.natAbs_mul, Int.natAbs_pow]
  refine Nat.mul_le_mul (Nat.le_trans (T_le hn m0 r h) (Nat.mul_le_mul_left _ (Nat.pow_le_pow_right (by omega) hr))) ?_
  exact Nat.le_trans (Nat.pow_le_pow_left m0 _) (Nat.pow_le_pow_right (by omega) (by omega))
theorem lo_lean {top low : Int} (h : 0 < low) : Lo (top / (Nat.gcd top.natAbs low.natAbs : Int)) (low / (Nat.gcd top.natAbs low.natAbs : Int)) top low := by
  have g0 : 0 < Nat.gcd top.natAbs low.natAbs := Nat.gcd_pos_of_pos_right _ (by omega)
  generalize hg : Nat.gcd top.natAbs low.natAbs = g at g0
  have d1 : (g : Int) ∣ top := Int.natAbs_dvd_natAbs.mp (by rw [← hg]; exact Nat.gcd_dvd_left _ _)
  have d2 : (g : Int) ∣ low := Int.natAbs_dvd_natAbs.mp (by rw [← hg]; exact Nat.gcd_dvd_right _ _)
  obtain ⟨x, rfl⟩ := d1
  obtain ⟨y, rfl⟩ := d2
  have gn : (g : Int) ≠ 0 := by omega
  rw [Int.mul_ediv_cancel_left _ gn, Int.mul_ediv_cancel_left _ gn]
  refine ⟨?_, ?_, by grind⟩
  · rcases Int.lt_or_le 0 y with z | z
    · exact z
    · have := Int.mul_le_mul_of_nonneg_left z (show (0 : Int) ≤ g by omega)
      rw [Int.mul_zero] at this
      omega
  · rw [Int.natAbs_mul, Int.natAbs_mul, Nat.gcd_mul_left, Int.natAbs_natCast] at hg
    have h1 : g * Nat.gcd x.natAbs y.natAbs = g * 1 := by rw [hg, Nat.mul_one]
    exact Nat.eq_of_mul_eq_mul_left g0 h1
theorem lo_mul {a b N D n m x y : Int} (h : Lo a b N D) (g : Lo x y (a * n) (b * m)) : Lo x y (N * n) (D * m) := by
  refine ⟨g.1, g.2.1, ?_⟩
  have b0 := h.1
  have h1 := h.2.2
  have h2 := g.2.2
  have : (x * (D * m)) * b = (N * n * y) * b := by grind
  exact Int.eq_of_mul_eq_mul_right (by omega) this
theorem lo_add {a b N D c x y : Int} (h : Lo a b N D) (g : Lo x y (a * 1 + c * b) (b * 1)) : Lo x y (N + c * D) D := by
  refine ⟨g.1, g.2.1, ?_⟩
  have b0 := h.1
  have h1 := h.2.2
  have h2 := g.2.2
  have : (x * D) * b = ((N + c * D) * y) * b := by grind
  exact Int.eq_of_mul_eq_mul_right (by omega) this
theorem lo_le {a b N D : Int} (h : Lo a b N D) (d : 0 < D) : b ≤ D := by
  have := (lo_share h d).1
  have g0 : 0 < Nat.gcd N.natAbs D.natAbs := Nat.gcd_pos_of_pos_right _ (by omega)
  have b0 := h.1
  have := Int.mul_le_mul_of_nonneg_left (show (1 : Int) ≤ (Nat.gcd N.natAbs D.natAbs : Int) by omega) (show 0 ≤ b by omega)
  omega
theorem pow_le7 {m : Int} (m0 : 0 < m) (m1 : m ≤ 7) (k : Nat) : m ^ k ≤ 7 ^ k := by
  induction k with
  | zero => simp
  | succ k ih =>
    rw [Int.pow_succ, Int.pow_succ]
    exact Int.mul_le_mul ih m1 (by omega) (Int.le_of_lt (pow_pos' (by omega) k))
theorem pow_mono7 {k j : Nat} (h : k ≤ j) : (7 : Int) ^ k ≤ 7 ^ j := by
  have := Nat.pow_le_pow_right (n := 7) (by omega) h
  exact_mod_cast this
theorem max_lng {p : List (List Int)} {k : Int} (h1 : k ∈ (0 : Int) :: p.map (fun r => (r.length : Int))) (h2 : ∀ y ∈ (0 : Int) :: p.map (fun r => (r.length : Int)), y ≤ k) : k = (lng p : Int) := by
  have up : (lng p : Int) ≤ k := by
    clear h1
    induction p with
    | nil => exact h2 0 (by simp)
    | cons r p ih =>
      have a := ih fun y hy => h2 y (by
        rcases List.mem_cons.mp hy with hy | hy
        · simp [hy]
        · rw [List.map_cons]; exact List.mem_cons_of_mem _ (List.mem_cons_of_mem _ hy))
      have b := h2 r.length (by simp)
      rw [lng]
      omega
  rcases List.mem_cons.mp h1 with h | h
  · omega
  · obtain ⟨r, hr, rfl⟩ := List.mem_map.mp h
    have := lng_le hr
    omega
/-- the loop's step -/
theorem low_step {l Gn M : Nat} {a b N : Int} (m0 : 0 < M) (e : l * Gn = M) (h : Lo a b N (M : Int)) : (l * b.natAbs / Nat.gcd l b.natAbs) * Nat.gcd Gn N.natAbs = M := by
  have sh := (lo_share h (by omega)).1
  have e2 : b.natAbs * Nat.gcd N.natAbs M = M := by
    have := congrArg Int.natAbs sh
    rw [Int.natAbs_mul, Int.natAbs_natCast, Int.natAbs_natCast] at this
    exact this
  have := lcm_step m0 e e2
  have d : Gn ∣ M := ⟨l, by rw [← e, Nat.mul_comm]⟩
  have g : Nat.gcd Gn (Nat.gcd N.natAbs M) = Nat.gcd Gn N.natAbs := by
    rw [Nat.gcd_comm N.natAbs M, ← Nat.gcd_assoc, Nat.gcd_eq_left d]
  rw [g] at this
  exact this
theorem low_end {l Gn M : Nat} {a b N : Int} (m0 : 0 < M) (e : l * Gn = M) (d : Gn ∣ N.natAbs) (h : Lo a b N (M : Int)) : a * ((l : Int) / b) = N / (Gn : Int) := by
  obtain ⟨s1, s2⟩ := lo_share h (by omega)
  have g1 : Gn ∣ M := ⟨l, by rw [← e, Nat.mul_comm]⟩
  have g0 : 0 < Gn := Nat.pos_of_dvd_of_pos g1 m0
  have g2 : Gn ∣ Nat.gcd N.natAbs M := Nat.dvd_gcd d g1
  rw [Int.natAbs_natCast] at s1 s2
  obtain ⟨k, hk⟩ := g2
  rw [hk] at s1 s2
  have b0 := h.1
  have gi : (Gn : Int) ≠ 0 := by omega
  have el : (l : Int) = b * k := by
    have : (l : Int) * Gn = (b * k) * Gn := by
      rw [show (l : Int) * Gn = ((l * Gn : Nat) : Int) from by simp, e, ← s1]
      rw [Int.natCast_mul]
      grind
    exact Int.eq_of_mul_eq_mul_right gi this
  rw [el, Int.mul_ediv_cancel_left _ (by omega), ← s2, Int.natCast_mul]
  rw [show a * ((Gn : Int) * (k : Int)) = (Gn : Int) * (a * k) from by grind, Int.mul_ediv_cancel_left _ gi]
theorem mm_pos {m : Int} (h : 0 < m) (k : Nat) : 0 < mm m k := Nat.pow_pos (by omega)
theorem mm_le {m : Int} (h : m.natAbs ≤ 7) {k : Nat} (hk : k ≤ 7) : mm m k ≤ 823543 := by
  have : mm m k ≤ 7 ^ 7 := Nat.le_trans (Nat.pow_le_pow_left h k) (Nat.pow_le_pow_right (by omega) hk)
  exact this
theorem G_take {n m : Int} {p : List (List Int)} {M i : Nat} {r : List Int} (h : p[i]? = some r) : G M ((nums n m p).take (i + 1)) = Nat.gcd (G M ((nums n m p).take i)) (numAt n m (lng p) r).natAbs := by
  have e : (nums n m p)[i]? = some (numAt n m (lng p) r) := by unfold nums; rw [List.getElem?_map, h]; rfl
  rw [List.take_add_one, e]
  exact G_append _ _ _
theorem G_split : ∀ (l k : List Int) (M : Nat), G M (l ++ k) = G (G M l) k
  | [], k, M => rfl
  | x :: l, k, M => G_split l k _
theorem G_early {l : List Int} {i : Nat} (h : G 0 (l.take i) = 1) : G 0 l = 1 := by
  have e : l = l.take i ++ l.drop i := (List.take_append_drop i l).symm
  rw [e, G_split, h]
  exact G_one _
theorem max_fold : ∀ (p : List (List Int)) (a : Int), 0 ≤ a → (p.map fun r => ((r.length : Nat) : Int)).foldl max a = max a (lng p : Int)
  | [], a, h => by
    show a = max a (((0 : Nat)) : Int)
    omega
  | r :: p, a, h => by
    rw [List.map_cons, List.foldl_cons, max_fold p _ (by omega), lng]
    omega
/-! rows and polys by their numbers -/
abbrev g (r : List Int) (k : Nat) : Int := r.getD k 0
def rw' (p : List (List Int)) (i : Nat) : List Int := p.getD i []
def co (p : List (List Int)) (i j : Nat) : Int := g (rw' p i) j
theorem g_none {r : List Int} {k : Nat} (h : r.length ≤ k) : g r k = 0 := by
  unfold g
  rw [List.getD_eq_getElem?_getD, List.getElem?_eq_none h]
  rfl
theorem g_some {r : List Int} {k : Nat} (h : k < r.length) : g r k = r[k] := by
  unfold g
  rw [List.getD_eq_getElem?_getD, List.getElem?_eq_getElem h]
  rfl
theorem rw_none {p : List (List Int)} {k : Nat} (h : p.length ≤ k) : rw' p k = [] := by
  unfold rw'
  rw [List.getD_eq_getElem?_getD, List.getElem?_eq_none h]
  rfl
theorem rw_some {p : List (List Int)} {k : Nat} (h : k < p.length) : rw' p k = p[k] := by
  unfold rw'
  rw [List.getD_eq_getElem?_getD, List.getElem?_eq_getElem h]
  rfl
theorem getD_trim {α : Type} (z : α → Bool) (d : α) (hz : ∀ a, z a = true → a = d) : ∀ (l : List α) (k : Nat), (trimBy z l).getD k d = l.getD k d
  | [], k => rfl
  | a :: l, k => by
    have ih := getD_trim z d hz l
    rw [trimBy]
    cases e : trimBy z l with
    | nil =>
      rw [e] at ih
      by_cases c : z a = true
      · rw [if_pos c]
        cases k with
        | zero => simp [hz a c]
        | succ k => simpa using ih k
      · rw [if_neg c]
        cases k with
        | zero => simp
        | succ k => simpa using ih k
    | cons b r =>
      rw [e] at ih
      cases k with
      | zero => simp
      | succ k => simpa using ih k
theorem g_trim (l : List Int) (k : Nat) : g (trimI l) k = g l k := getD_trim _ _ (fun a h => by simpa using h) l k
theorem rw_trim (p : List (List Int)) (k : Nat) : rw' (trimP p) k = rw' p k := getD_trim _ _ (fun a h => by simpa using h) p k
theorem getD_take {α : Type} (d : α) (l : List α) (n k : Nat) (h : ∀ i, n ≤ i → l.getD i d = d) : (l.take n).getD k d = l.getD k d := by
  rw [List.getD_eq_getElem?_getD, List.getElem?_take]
  split
  · rw [List.getD_eq_getElem?_getD]
  · rw [h k (by omega)]
    rfl
/-- a row is known by its numbers -/
theorem row_ext {r s : List Int} (hr : okR r) (hs : okR s) (h : ∀ k, g r k = g s k) : r = s := by
  have half : ∀ {r s : List Int}, okR s → (∀ k, g r k = g s k) → s.length ≤ r.length := fun {r s} hs h => by
    rcases Nat.lt_or_ge r.length s.length with c | c
    · exfalso
      have e : s.getLast? = some s[s.length - 1] := by rw [List.getLast?_eq_getElem?, List.getElem?_eq_getElem (by omega)]
      refine hs _ e ?_
      rw [← g_some (by omega), ← h, g_none (by omega)]
    · exact c
  have l : r.length = s.length := Nat.le_antisymm (half hr fun k => (h k).symm) (half hs h)
  refine List.ext_getElem l fun k h1 h2 => ?_
  rw [← g_some h1, ← g_some h2, h]
theorem okR_nil : okR [] := fun c h => by simp at h
theorem okR_rw {p : List (List Int)} (h : ∀ r ∈ p, okR r) (i : Nat) : okR (rw' p i) := by
  rcases Nat.lt_or_ge i p.length with c | c
  · rw [rw_some c]; exact h _ (List.getElem_mem _)
  · rw [rw_none c]; exact okR_nil
theorem poly_ext {p q : List (List Int)} (hp : okP p) (hq : okP q) (h : ∀ i j, co p i j = co q i j) : p = q := by
  have e : ∀ i, rw' p i = rw' q i := fun i => row_ext (okR_rw hp.1 i) (okR_rw hq.1 i) (h i)
  have half : ∀ {p q : List (List Int)}, okP q → (∀ i, rw' p i = rw' q i) → q.length ≤ p.length := fun {p q} hq h => by
    rcases Nat.lt_or_ge p.length q.length with c | c
    · exfalso
      have e : q.getLast? = some q[q.length - 1] := by rw [List.getLast?_eq_getElem?, List.getElem?_eq_getElem (by omega)]
      refine hq.2 _ e ?_
      rw [← rw_some (by omega), ← h, rw_none (by omega)]
    · exact c
  have l : p.length = q.length := Nat.le_antisymm (half hp fun k => (e k).symm) (half hq e)
  refine List.ext_getElem l fun k h1 h2 => ?_
  rw [← rw_some h1, ← rw_some h2, e]
/-! sums -/
def S : Nat → (Nat → Int) → Int
  | 0, _ => 0
  | n + 1, f => S n f + f n
theorem S_ext {f h : Nat → Int} : ∀ n, (∀ i, i < n → f i = h i) → S n f = S n h
  | 0, _ => rfl
  | n + 1, e => by rw [S, S, S_ext n fun i hi => e i (by omega), e n (by omega)]
theorem S_zero : ∀ n, S n (fun _ => 0) = 0
  | 0 => rfl
  | n + 1 => by rw [S, S_zero n]; rfl
theorem S_more {f : Nat → Int} {n m : Nat} (h : n ≤ m) (z : ∀ i, n ≤ i → f i = 0) : S m f = S n f := by
  induction m with
  | zero => have : n = 0 := by omega
            subst this; rfl
  | succ m ih =>
    rcases Nat.lt_or_ge m n with c | c
    · have : n = m + 1 := by omega
      subst this; rfl
    · rw [S, ih c, z m c, Int.add_zero]
theorem S_add {f h : Nat → Int} : ∀ n, S n (fun i => f i + h i) = S n f + S n h
  | 0 => rfl
  | n + 1 => by rw [S, S, S, S_add n]; omega
theorem S_mul {f : Nat → Int} (c : Int) : ∀ n, S n (fun i => c * f i) = c * S n f
  | 0 => by simp [S]
  | n + 1 => by rw [S, S, S_mul c n, Int.mul_add]
theorem S_shift {f : Nat → Int} : ∀ n, S (n + 1) f = f 0 + S n (fun i => f (i + 1))
  | 0 => by simp [S]
  | n + 1 => by
    rw [S, S_shift n, S]
    omega
theorem S_rev {f : Nat → Int} : ∀ n, S (n + 1) f = S (n + 1) (fun i => f (n - i))
  | 0 => rfl
  | n + 1 => by
    rw [S, S_rev n, S_shift (f := fun i => f (n + 1 - i))]
    have : S (n + 1) (fun i => f (n + 1 - (i + 1))) = S (n + 1) (fun i => f (n - i)) := S_ext _ fun i _ => by rw [Nat.add_sub_add_right]
    rw [this]
    show _ + f (n + 1) = f (n + 1 - 0) + _
    rw [Nat.sub_zero]
    omega
theorem S_comm {f : Nat → Nat → Int} (m : Nat) : ∀ n, S n (fun i => S m (fun j => f i j)) = S m (fun j => S n (fun i => f i j))
  | 0 => by simp only [S]; exact (S_zero m).symm
  | n + 1 => by
    rw [S, S_comm m n, ← S_add]
    rfl
/-- what two rows of numbers make, multiplied -/
def cv (f h : Nat → Int) (k : Nat) : Int := S (k + 1) fun i => f i * h (k - i)
theorem cv_comm (f h : Nat → Int) (k : Nat) : cv f h k = cv h f k := by
  unfold cv
  rw [S_rev]
  refine S_ext _ fun i hi => ?_
  rw [Nat.sub_sub_self (by omega), Int.mul_comm]
/-- the loops' sum -/
theorem cv_loop {f h : Nat → Int} {n : Nat} (z : ∀ i, n ≤ i → f i = 0) (k : Nat) : S n (fun a => if a ≤ k then f a * h (k - a) else 0) = cv f h k := by
  have e1 : S (max n (k + 1)) (fun a => if a ≤ k then f a * h (k - a) else 0) = S n (fun a => if a ≤ k then f a * h (k - a) else 0) := S_more (by omega) fun i hi => by
    rw [z i hi, Int.zero_mul]
    split <;> rfl
  have e2 : S (max n (k + 1)) (fun a => if a ≤ k then f a * h (k - a) else 0) = S (k + 1) (fun a => if a ≤ k then f a * h (k - a) else 0) := S_more (by omega) fun i hi => by
    rw [if_neg (by omega)]
  rw [← e1, e2]
  unfold cv
  exact S_ext _ fun i hi => by rw [if_pos (by omega)]
theorem cv_zero {h : Nat → Int} {f : Nat → Int} (z : ∀ i, f i = 0) (k : Nat) : cv f h k = 0 := by
  unfold cv
  rw [S_ext (h := fun _ => 0) _ fun i _ => by rw [z i, Int.zero_mul], S_zero]
theorem g_set {l : List Int} {n : Nat} {c : Int} (h : n < l.length) (k : Nat) : g (l.set n c) k = if k = n then c else g l k := by
  unfold g
  rw [List.getD_eq_getElem?_getD, List.getD_eq_getElem?_getD, List.getElem?_set]
  by_cases e : n = k
  · subst e
    rw [if_pos rfl, if_pos h, if_pos rfl]
    rfl
  · rw [if_neg e, if_neg (fun z => e z.symm)]
theorem rw_set {l : List (List Int)} {n : Nat} {c : List Int} (h : n < l.length) (k : Nat) : rw' (l.set n c) k = if k = n then c else rw' l k := by
  unfold rw'
  rw [List.getD_eq_getElem?_getD, List.getD_eq_getElem?_getD, List.getElem?_set]
  by_cases e : n = k
  · subst e
    rw [if_pos rfl, if_pos h, if_pos rfl]
    rfl
  · rw [if_neg e, if_neg (fun z => e z.symm)]
/-! lowest terms -/
theorem lo_scale {a b N D N' D' : Int} (h : Lo a b N D) (d : D ≠ 0) (e : N * D' = N' * D) : Lo a b N' D' := by
  obtain ⟨h1, h2, h3⟩ := h
  refine ⟨h1, h2, Int.eq_of_mul_eq_mul_right d ?_⟩
  have : a * D * D' = N * D' * b := by rw [h3]; grind
  rw [e] at this
  grind
theorem lo_sum {a b c d N M D x y : Int} (h1 : Lo a b N D) (h2 : Lo c d M D) (d0 : D ≠ 0) (h : Lo x y (a * d + c * b) (b * d)) : Lo x y (N + M) D := by
  obtain ⟨b0, _, e1⟩ := h1
  obtain ⟨c0, _, e2⟩ := h2
  refine lo_scale h (Int.ne_of_gt (Int.mul_pos b0 c0)) ?_
  have : (a * d + c * b) * D = a * D * d + c * D * b := by grind
  rw [this, e1, e2]
  grind
theorem lo_prod {a b c d N M D E x y : Int} (h1 : Lo a b N D) (h2 : Lo c d M E) (h : Lo x y (a * c) (b * d)) : Lo x y (N * M) (D * E) := by
  obtain ⟨b0, _, e1⟩ := h1
  obtain ⟨c0, _, e2⟩ := h2
  refine lo_scale h (Int.ne_of_gt (Int.mul_pos b0 c0)) ?_
  have : a * c * (D * E) = (a * D) * (c * E) := by grind
  rw [this, e1, e2]
  grind
theorem lo_uniq {a b c d N D : Int} (h1 : Lo a b N D) (h2 : Lo c d N D) (d0 : 0 < D) : a = c ∧ b = d := by
  have s1 := lo_share h1 d0
  have s2 := lo_share h2 d0
  have g0 : (Nat.gcd N.natAbs D.natAbs : Int) ≠ 0 := by
    have : 0 < Nat.gcd N.natAbs D.natAbs := Nat.gcd_pos_of_pos_right _ (by omega)
    omega
  exact ⟨Int.eq_of_mul_eq_mul_right g0 (by rw [s1.2, s2.2]), Int.eq_of_mul_eq_mul_right g0 (by rw [s1.1, s2.1])⟩
theorem lo_num {a b N D : Int} (h : Lo a b N D) (d0 : 0 < D) : a.natAbs ≤ N.natAbs := by
  have s := lo_share h d0
  have g0 : 0 < Nat.gcd N.natAbs D.natAbs := Nat.gcd_pos_of_pos_right _ (by omega)
  have e := congrArg Int.natAbs s.2
  rw [Int.natAbs_mul, Int.natAbs_natCast] at e
  rw [← e]
  exact Nat.le_mul_of_pos_right _ g0
end K01

set_option Elab.async false
set_option linter.all false
set_option maxRecDepth 100000
set_option maxHeartbeats 4000000
local macro_rules | `(tactic| walk_at "rd") => `(tactic| dsimp only [L2.tSeq, L2.tNext, L2.tRet, L2.tRetN, L2.tAsg, L2.gName, L2.tIfS, L2.tDrop, L2.tCons, L2.tNil, L2.tC, L2.tVar, L2.tCB, L2.tAndV, L2.tOrV, L2.tNotV, L2.tB, L2.tTest, L2.tOp, L2.tUn, L2.tNot, L2.tAnd, L2.tOr, L2.tIf, L2.tCall, L2.tTup, L2.tLst, L2.tNotT, L2.tYes])
namespace K01
open PySem PySem.Spec PyProof.Rows L2 Tw
def top (i : Nat) : Stmt := PySem.Challenge.pw_twoletters_k01_errors_each_of_its_own.main.body.getD i (.Pass ⟨0, 0, 0, 0⟩)
abbrev sWell : Stmt := top 22
abbrev sDraw : Stmt := top 23
abbrev sPick : Stmt := top 24
abbrev sCommon : Stmt := top 25
abbrev sLean : Stmt := top 26
abbrev sSmall : Stmt := top 27
abbrev sPart : Stmt := top 28
abbrev sOdd : Stmt := top 29
abbrev sBent : Stmt := top 30
abbrev sSpoilt : Stmt := top 31
abbrev sLow : Stmt := top 32
abbrev sPlace : Stmt := top 33
abbrev sLowN : Stmt := top 34
abbrev sByName : Stmt := top 35
abbrev sTruths : Stmt := top 36
abbrev sMade : Stmt := top 37
abbrev sRight : Stmt := top 38
abbrev sLaw : Stmt := top 39
/-- built-in names that the text gives no other meaning -/
structure Nb (mg : Str → Option Value) : Prop where
  isi : mg "isinstance" = none
  int : mg "int" = none
  bool : mg "bool" = none
  tup : mg "tuple" = none
  all : mg "all" = none
  len : mg "len" = none
  lst : mg "list" = none
  dvm : mg "divmod" = none
  rng : mg "range" = none
  max : mg "max" = none
  min : mg "min" = none
  abs : mg "abs" = none
  repr : mg "repr" = none
  rev : mg "reversed" = none

/-! ### what the answers are -/
def wholeB (d : PyData) : Bool := isIntD d && !isBoolD d
def lastD (ds : List PyData) (d : PyData) : Bool := match ds.getLast? with
  | some e => !(PyData.eqv e d)
  | none => true
def rowB : PyData → Bool
  | .tuple ds => (ds.map wholeB).all id && lastD ds (.int 0)
  | _ => false
def polyB : PyData → Bool
  | .tuple ds => (ds.map rowB).all id && lastD ds (.tuple [])
  | _ => false
/-- the answer is f of the datum -/
def spB (f : PyData → Bool) : Sp := fun vs H Q _ => ∃ a v d m, vs = [v] ∧ Da a H v d ∧ Sm m 1000 d ∧ ∀ H', Same H H' → Q (.bl (f d)) H'

theorem getLast_get {α : Type} {xs : List α} {x : α} (h : xs.getLast? = some x) : xs[xs.length - 1]? = some x := by
  rw [← List.getLast?_eq_getElem?]; exact h
theorem atI_end {α : Type} {xs : List α} {x : α} (h : xs.getLast? = some x) : atI xs (-1) = some x := by
  obtain ⟨ys, rfl⟩ := List.getLast?_eq_some_iff.mp h
  exact atI_last _ _
theorem last_both {a : Addr} {H : Hp} {xs : List V} {ds : List PyData} (h : DaAll a H xs ds) (ne : ds ≠ []) : ∃ x d, xs.getLast? = some x ∧ ds.getLast? = some d ∧ d ∈ ds ∧ Da a H x d := by
  have l := h.len
  have hp : 0 < ds.length := List.length_pos_iff.mpr ne
  have hx : xs.length - 1 < xs.length := by omega
  obtain ⟨d, e1, e2⟩ := h.get (List.getElem?_eq_getElem hx)
  refine ⟨xs[xs.length - 1], d, ?_, ?_, List.mem_of_getElem? e1, e2⟩
  · rw [List.getLast?_eq_getElem?]; exact List.getElem?_eq_getElem hx
  · rw [List.getLast?_eq_getElem?, ← l]; exact e1
section
variable {P : Program} {w : World} {K : PySem.W.Frag} {mg : Str → Option Value} {base : Heap}
theorem tup_of {a : Addr} {H : Hp} {v : V} {d : PyData} (h : Da a H v d) (t : isTupD d = true) : ∃ p xs ds, v = .ref p ∧ d = .tuple ds ∧ p ≠ a ∧ H p = some (.tup xs) ∧ DaAll a H xs ds := by
  cases h with
  | tup n e r => exact ⟨_, _, _, rfl, rfl, n, e, r⟩
  | _ => exact absurd t (by simp [isTupD])
theorem int_of {a : Addr} {H : Hp} {v : V} {d : PyData} (h : Da a H v d) (t : wholeB d = true) : ∃ i, v = .int i ∧ d = .int i := by
  cases h with
  | int i => exact ⟨i, rfl, rfl⟩
  | _ => exact absurd t (by simp [wholeB, isIntD, isBoolD])
theorem not_tup {d : PyData} (h : isTupD d = false) : rowB d = false ∧ polyB d = false := by
  cases d <;> first | exact ⟨rfl, rfl⟩ | cases h
theorem row_tup {d : PyData} (h : rowB d = true) : isTupD d = true := by
  cases d <;> first | rfl | cases h
theorem all_mem {f : PyData → Bool} {ds : List PyData} {d : PyData} (h : (ds.map f).all id = true) (m : d ∈ ds) : f d = true := by
  rw [List.all_eq_true] at h
  exact h (f d) (List.mem_map_of_mem m)
theorem empty_iff {a : Addr} {H : Hp} {xs : List V} {ds : List PyData} (h : DaAll a H xs ds) : xs.isEmpty = ds.isEmpty := by
  cases h <;> rfl
theorem wipe1 (σ : L2.St) (j : Nat) (x : V) : wipe ((wipe σ [j]).set j (some x)) [j] = wipe σ [j] := by
  show ((σ.set j none).set j (some x)).set j none = σ.set j none
  rw [List.set_set, List.set_set]

end
end K01

set_option Elab.async false
set_option linter.all false
set_option maxRecDepth 100000
set_option maxHeartbeats 4000000
local macro_rules | `(tactic| walk_at "rd") => `(tactic| dsimp only [L2.tSeq, L2.tNext, L2.tRet, L2.tRetN, L2.tAsg, L2.gName, L2.tIfS, L2.tDrop, L2.tCons, L2.tNil, L2.tC, L2.tVar, L2.tCB, L2.tAndV, L2.tOrV, L2.tNotV, L2.tB, L2.tTest, L2.tOp, L2.tUn, L2.tNot, L2.tAnd, L2.tOr, L2.tIf, L2.tCall, L2.tTup, L2.tLst, L2.tNotT, L2.tYes, L2.gTup, L2.gCons, L2.gNil, L2.gSub])
namespace K01
open PySem PySem.Spec PyProof.Rows L2 Tw
/-- an int from 0 on below n; the well is turned -/
def spDraw : Sp := fun vs H Q _ => ∃ a n, vs = [.ref a, .int n] ∧ We a H ∧ 0 < n ∧ n < 1073741824 ∧ ∀ d H', 0 ≤ d → d < n → Kp a H H' → We a H' → Q (.int d) H'
/-- one of a tuple's items -/
def spPick : Sp := fun vs H Q _ => ∃ a p xs, vs = [.ref a, .ref p] ∧ We a H ∧ p ≠ a ∧ H p = some (.tup xs) ∧ xs ≠ [] ∧ xs.length < 1000 ∧ ∀ (i : Nat) x H', xs[i]? = some x → Kp a H H' → We a H' → Q x H'
theorem kp_well {a : Addr} {H H' : Hp} {o : HO} (h : Kp a H H') : Kp a H (upd H' a o) := fun b u n e => by
  rw [upd_ne n]; exact h b u n e
section
variable {P : Program} {w : World} {K : PySem.W.Frag} {mg : Str → Option Value} {base : Heap}
theorem scDraw : FnScope ["_law_well_here", "_law_few", "_law_figure", "_law_seed"] ["_law_well_here", "_law_few"] (defScope sDraw) := ⟨rfl, rfl, rfl, by decide +kernel, rfl, by decide +kernel, by decide +kernel⟩
theorem ok_draw (D : Def K mg "_law_draw" sDraw ["_law_well_here", "_law_few"]) (nb : Nb mg) : Cal P w K mg base "_law_draw" 1 ["_law_well_here", "_law_few"] spDraw := by
  refine D.ok scDraw (fun vs H Q E h => ?_) (fun f cdv A out s H vs Q E hr h => ?_)
  · obtain ⟨a, n, rfl, _⟩ := h; rfl
  obtain ⟨a, n, rfl, ⟨x, y, z, hw⟩, n0, n1, q⟩ := h
  refine ⟨_, pss_cons (ps_if (pt_cmpR op_gt (pe_ix ix_list (pv 0) pe_int (fun _ _ => rfl)) pe_int (nomark _))
      (pss_cons (ps_asg (pe_callB (id := "divmod") call_divmod (by rfl) nb.dvm (by decide +kernel) (pa_cons (pe_ix ix_list (pv 0) pe_int (fun _ _ => rfl)) (pa_cons (pv 1) pa_nil)))
          (pg_tup rfl (pgs_cons (pg_sub (pv 0) pe_int set_list) (pgs_cons (pg_name (i := 2) scDraw.nd rfl (Or.inl rfl)) pgs_nil))))
        (pss_one (ps_ret (pv 2)))) pss_nil)
    (pss_cons (ps_asg (pe_op op_add (pe_ix ix_list (pv 0) pe_int (fun _ _ => rfl)) pe_int) (pg_sub (pv 0) pe_int set_list))
    (pss_cons (ps_set (i := 3) scDraw.nd rfl (Or.inl rfl) (pe_op op_mod (pe_callTy (T := "int") call_int1 (by rfl) nb.int (by decide +kernel)
        (pa_cons (pe_op op_add (pe_ix ix_list (pv 0) pe_int (fun _ _ => rfl)) (pe_op op_mul pe_int (pe_ix ix_list (pv 0) pe_int (fun _ _ => rfl)))) pa_nil)) pe_int))
    (pss_cons (ps_asg (pe_op op_mod (pe_callTy (T := "int") call_int1 (by rfl) nb.int (by decide +kernel)
        (pa_cons (pe_op op_add (pe_op op_mul (pv 3) (pe_op op_add (pe_op op_mod (pe_callTy (T := "int") call_int1 (by rfl) nb.int (by decide +kernel) (pa_cons (pv 3) pa_nil)) pe_int) pe_int))
          (pe_op op_mul pe_int (pe_ix ix_list (pv 0) pe_int (fun _ _ => rfl)))) pa_nil)) pe_int) (pg_sub (pv 0) pe_int set_list))
    (pss_one (ps_ret (pe_op op_mod (pe_callTy (T := "int") call_int1 (by rfl) nb.int (by decide +kernel) (pa_cons (pe_op op_fdiv (pe_ix ix_list (pv 0) pe_int (fun _ _ => rfl)) pe_int) pa_nil)) (pv 1))))))), ?_⟩
  walk_at "rd"
  refine ⟨.ref a, rfl, a, _, 0, .int x, rfl, rfl, SqL.of hw, rfl, x, 0, rfl, rfl, _, rfl, ite2 (fun c => ?_) (fun c => ?_)⟩
  · refine ⟨.ref a, rfl, a, _, 0, .int x, rfl, rfl, SqL.of hw, rfl, .int n, rfl, x, n, rfl, ⟨n0, n1⟩, fun t nt => ?_⟩
    have ta : t ≠ a := (show We a H from ⟨x, y, z, hw⟩).ne nt
    have h1 : upd H t (.tup [.int (x / n), .int (x % n)]) a = some (.lst [.int x, .int y, .int z]) := by rw [upd_ne ta.symm]; exact hw
    refine ⟨t, _, rfl, SqT.of upd_same, rfl, .int (x / n), _, rfl, .ref a, rfl, a, _, 0, 0, rfl, rfl, h1, rfl, .int (x % n), _, rfl, ⟨rfl, .int (x % n), rfl, ?_⟩⟩
    refine q _ _ (Int.emod_nonneg _ (by omega)) (Int.emod_lt_of_pos _ n0) (kp_well (kp_new nt)) ⟨x / n, y, z, upd_same⟩
  · refine ⟨.ref a, rfl, a, _, 2, .int z, rfl, rfl, SqL.of hw, rfl, z, 1, rfl, rfl, .ref a, rfl, a, _, 2, 2, rfl, rfl, hw, rfl, ?_⟩
    generalize hH1 : upd H a _ = H1
    have w1 : H1 a = some (.lst [.int x, .int y, .int (z + 1)]) := by rw [← hH1]; exact upd_same
    have k1 : Kp a H H1 := by rw [← hH1]; exact kp_well (Kp.refl a H)
    refine ⟨.ref a, rfl, a, _, 1, .int y, rfl, rfl, SqL.of w1, rfl, .ref a, rfl, a, _, 2, .int (z + 1), rfl, rfl, SqL.of w1, rfl, _, _, rfl, rfl, .inl ⟨by decide, by decide⟩, _, _, rfl, rfl, .inl ⟨_, rfl, _, _, rfl, rfl, (by show (0 : Int) < _; decide), ?_⟩⟩
    walk_at "rd"
    generalize hs : (_ : Int) % 2147483563 = sd
    have s0 : 0 ≤ sd := by rw [← hs]; exact Int.emod_nonneg _ (by decide)
    have s1 : sd < 2147483563 := by rw [← hs]; exact Int.emod_lt_of_pos _ (by decide)
    refine ⟨.int sd, rfl, .int sd, rfl, .inl ⟨sd, rfl, _, _, rfl, rfl, (by show (0 : Int) < _; decide), _, _, rfl, rfl, _, _, rfl, rfl, .inl ⟨by omega, by omega⟩, .ref a, rfl, a, _, 2, .int (z + 1), rfl, rfl, SqL.of w1, rfl, _, _, rfl, rfl, .inl ⟨by decide, by decide⟩, _, _, rfl, rfl, .inl ⟨_, rfl, _, _, rfl, rfl, (by show (0 : Int) < _; decide), ?_⟩⟩⟩
    walk_at "rd"
    refine ⟨.ref a, rfl, a, _, 1, 1, rfl, rfl, w1, rfl, ?_⟩
    generalize hy : (_ : Int) % 2147483563 = y2
    generalize hH2 : upd H1 a _ = H2
    have w2 : H2 a = some (.lst [.int x, .int y2, .int (z + 1)]) := by rw [← hH2]; exact upd_same
    have k2 : Kp a H H2 := by rw [← hH2]; exact kp_well k1
    refine ⟨.ref a, rfl, a, _, 1, .int y2, rfl, rfl, SqL.of w2, rfl, _, _, rfl, rfl, ⟨by decide, by decide⟩, .inl ⟨_, rfl, .int n, rfl, _, _, rfl, rfl, n0, ?_⟩⟩
    exact q _ _ (Int.emod_nonneg _ (by omega)) (Int.emod_lt_of_pos _ n0) k2 ⟨x, y2, z + 1, w2⟩

theorem scPick : FnScope ["_law_well_here", "_law_some"] ["_law_well_here", "_law_some"] (defScope sPick) := ⟨rfl, rfl, rfl, by decide +kernel, rfl, by decide +kernel, by decide +kernel⟩
theorem ok_pick (D : Def K mg "_law_pick" sPick ["_law_well_here", "_law_some"]) (nb : Nb mg) (c1 : Cal P w K mg base "_law_draw" 1 ["_law_well_here", "_law_few"] spDraw) : Cal P w K mg base "_law_pick" 2 ["_law_well_here", "_law_some"] spPick := by
  refine D.ok scPick (fun vs H Q E h => ?_) (fun f cdv A out s H vs Q E hr h => ?_)
  · obtain ⟨a, p, xs, rfl, _⟩ := h; rfl
  obtain ⟨a, p, xs, rfl, hw, np, hp, ne, hl, q⟩ := h
  refine ⟨_, pss_one (ps_ret (pe_ix ix_tup (pv 1) (pe_cal c1 hr (Nat.le_refl 1) (by rfl) (pa_cons (pv 0) (pa_cons (pe_callB (id := "len") call_len_seq (by rfl) nb.len PySem.boot_len (pa_cons (pv 1) pa_nil)) pa_nil))) (fun _ _ => rfl))), ?_⟩
  walk_at "rd"
  have l0 : 0 < xs.length := List.length_pos_iff.mpr ne
  refine ⟨.ref p, rfl, .ref a, rfl, .ref p, rfl, p, xs, rfl, .inr (SqT.of hp), a, _, rfl, hw, by omega, by omega, fun d H1 d0 d1 k1 w1 => ?_⟩
  obtain ⟨m, rfl⟩ := Int.eq_ofNat_of_zero_le d0
  have hm : m < xs.length := by omega
  exact ⟨p, xs, _, xs[m], rfl, rfl, SqT.of (k1 _ _ np hp), atI_nat (List.getElem?_eq_getElem hm), q m _ H1 (List.getElem?_eq_getElem hm) k1 w1⟩
end
end K01

set_option Elab.async false
set_option linter.all false
set_option maxRecDepth 100000
set_option maxHeartbeats 4000000
local macro_rules | `(tactic| walk_at "rd") => `(tactic| dsimp only [L2.tSeq, L2.tNext, L2.tRet, L2.tRetN, L2.tAsg, L2.gName, L2.tIfS, L2.tDrop, L2.tCons, L2.tNil, L2.tC, L2.tVar, L2.tCB, L2.tAndV, L2.tOrV, L2.tNotV, L2.tB, L2.tTest, L2.tOp, L2.tUn, L2.tNot, L2.tAnd, L2.tOr, L2.tIf, L2.tCall, L2.tTup, L2.tLst, L2.tNotT, L2.tYes, L2.gTup, L2.gCons, L2.gNil, L2.gSub, L2.tBM0, L2.tBM, L2.tWhile, L2.tFor, L2.iRng1])
namespace K01
open PySem PySem.Spec PyProof.Rows L2 Tw
/-- data that may be compared, at most n deep -/
def Nice (n : Nat) (d : PyData) : Prop := d.canLay0 = true ∧ d.depth ≤ n
theorem canAll {ds : List PyData} (h : ∀ d ∈ ds, d.canLay0 = true) : PyData.canLayAll0 ds = true := by
  induction ds with
  | nil => simp [PyData.canLayAll0]
  | cons d ds ih => simp only [PyData.canLayAll0, h d (by simp), ih fun e he => h e (by simp [he]), Bool.and_self]
theorem depAll {n : Nat} {ds : List PyData} (h : ∀ d ∈ ds, d.depth ≤ n) : PyData.depthAll ds ≤ n := by
  induction ds with
  | nil => simp [PyData.depthAll]
  | cons d ds ih =>
    simp only [PyData.depthAll]
    exact Nat.max_le.mpr ⟨h d (by simp), ih fun e he => h e (by simp [he])⟩
theorem nice_tup {n : Nat} {ds : List PyData} (h : ∀ d ∈ ds, Nice n d) : Nice (n + 1) (.tuple ds) :=
  ⟨by simp only [PyData.canLay0]; exact canAll fun d hd => (h d hd).1, by simp only [PyData.depth]; exact Nat.succ_le_succ (depAll fun d hd => (h d hd).2)⟩
theorem nice_lst {n : Nat} {ds : List PyData} (h : ∀ d ∈ ds, Nice n d) : Nice (n + 1) (.list ds) :=
  ⟨by simp only [PyData.canLay0]; exact canAll fun d hd => (h d hd).1, by simp only [PyData.depth]; exact Nat.succ_le_succ (depAll fun d hd => (h d hd).2)⟩
theorem nice_int (i : Int) : Nice 0 (.int i) := ⟨by simp [PyData.canLay0], by simp [PyData.depth]⟩
theorem Nice.up {n m : Nat} {d : PyData} (h : Nice n d) (l : n ≤ m) : Nice m d := ⟨h.1, Nat.le_trans h.2 l⟩
theorem Nice.shaped {n : Nat} {d : PyData} (h : Nice n d) (l : n ≤ 64) : SeqAt.shaped d = true := by
  unfold SeqAt.shaped
  rw [h.1, decide_eq_true (Nat.le_trans h.2 l)]; rfl
end K01

set_option Elab.async false
set_option linter.all false
set_option maxRecDepth 100000
set_option maxHeartbeats 4000000
/-! rows and polys in memory -/
namespace K01
open PySem PySem.Spec PyProof.Rows L2 Tw
/-- tuples are kept -/
def Kt (H H' : Hp) : Prop := ∀ b xs, H b = some (.tup xs) → H' b = some (.tup xs)
theorem Kt.of {H H' : Hp} (s : Same H H') : Kt H H' := fun b xs e => s b _ e
theorem Kt.trans {H H1 H2 : Hp} (x : Kt H H1) (y : Kt H1 H2) : Kt H H2 := fun b xs e => y b xs (x b xs e)
theorem kt_kp {a : Addr} {H H' : Hp} (w : We a H) (k : Kp a H H') : Kt H H' := fun b xs e => k b _ (fun z => by
  obtain ⟨x, y, c, h⟩ := w
  rw [z, h] at e; cases e) e
theorem kt_upd {L : Addr} {H : Hp} {ys : List V} {o : HO} (h : H L = some (.lst ys)) : Kt H (upd H L o) := fun b xs e => by
  rw [upd_ne (fun z => by rw [z, h] at e; cases e)]; exact e
def Ro (H : Hp) (v : V) (r : List Int) : Prop := ∃ p, v = .ref p ∧ H p = some (.tup (r.map V.int))
theorem Ro.kt {H H' : Hp} {v : V} {r : List Int} (k : Kt H H') (h : Ro H v r) : Ro H' v r := by
  obtain ⟨p, e, f⟩ := h
  exact ⟨p, e, k _ _ f⟩
def RoA (H : Hp) (xs : List V) (rs : List (List Int)) : Prop := xs.length = rs.length ∧ ∀ (i : Nat) v, xs[i]? = some v → ∃ r, rs[i]? = some r ∧ Ro H v r
theorem RoA.kt {H H' : Hp} {v : List V} {r : List (List Int)} (k : Kt H H') (h : RoA H v r) : RoA H' v r :=
  ⟨h.1, fun i v e => let ⟨r, e1, e2⟩ := h.2 i v e; ⟨r, e1, e2.kt k⟩⟩
def Po (H : Hp) (v : V) (p : List (List Int)) : Prop := ∃ q xs, v = .ref q ∧ H q = some (.tup xs) ∧ RoA H xs p
theorem Po.kt {H H' : Hp} {v : V} {r : List (List Int)} (k : Kt H H') (h : Po H v r) : Po H' v r := by
  obtain ⟨q, xs, e, f, g⟩ := h
  exact ⟨q, xs, e, k _ _ f, g.kt k⟩
theorem RoA.nil (H : Hp) : RoA H [] [] := ⟨rfl, fun i v e => by simp at e⟩
theorem RoA.snoc {H : Hp} {xs : List V} {rs : List (List Int)} {v : V} {r : List Int} (h : RoA H xs rs) (g : Ro H v r) : RoA H (xs ++ [v]) (rs ++ [r]) := by
  obtain ⟨h1, h2⟩ := h
  refine ⟨by simp [h1], fun i u e => ?_⟩
  rcases Nat.lt_trichotomy i xs.length with c | c | c
  · rw [List.getElem?_append_left c] at e
    obtain ⟨r', e1, e2⟩ := h2 i u e
    exact ⟨r', by rw [List.getElem?_append_left (by omega)]; exact e1, e2⟩
  · subst c
    rw [List.getElem?_append_right (Nat.le_refl _), Nat.sub_self] at e
    cases e
    refine ⟨r, ?_, g⟩
    rw [h1, List.getElem?_append_right (Nat.le_refl _), Nat.sub_self]
    rfl
  · rw [List.getElem?_eq_none (by simp; omega)] at e
    cases e
theorem RoA.take {H : Hp} {xs : List V} {rs : List (List Int)} (k : Nat) (h : RoA H xs rs) : RoA H (xs.take k) (rs.take k) := by
  refine ⟨by rw [List.length_take, List.length_take, h.1], fun i v e => ?_⟩
  rw [List.getElem?_take] at e ⊢
  split at e
  · rw [if_pos ‹_›]; exact h.2 i v e
  · cases e
theorem RoA.set {H : Hp} {xs : List V} {rs : List (List Int)} {v : V} {r : List Int} (k : Nat) (h : RoA H xs rs) (g : Ro H v r) : RoA H (xs.set k v) (rs.set k r) := by
  refine ⟨by rw [List.length_set, List.length_set, h.1], fun i u e => ?_⟩
  rw [List.getElem?_set] at e ⊢
  rw [← h.1]
  split at e
  · rw [if_pos ‹_›]
    split at e
    · rw [if_pos ‹_›]; cases e; exact ⟨r, rfl, g⟩
    · cases e
  · rw [if_neg ‹_›]; exact h.2 i u e
theorem RoA.get {H : Hp} {xs : List V} {rs : List (List Int)} {k : Nat} (h : RoA H xs rs) (hk : k < rs.length) : ∃ v, xs[k]? = some v ∧ Ro H v rs[k] := by
  have hx : k < xs.length := by rw [h.1]; exact hk
  obtain ⟨r, e1, e2⟩ := h.2 k xs[k] (List.getElem?_eq_getElem hx)
  rw [List.getElem?_eq_getElem hk] at e1
  cases e1
  exact ⟨_, List.getElem?_eq_getElem hx, e2⟩
/-! as data -/
def rowD (ns : List Int) : PyData := .tuple (ns.map PyData.int)
def polyD (p : List (List Int)) : PyData := .tuple (p.map rowD)
theorem da_ints (a : Addr) (H : Hp) : ∀ ns : List Int, DaAll a H (ns.map V.int) (ns.map PyData.int)
  | [] => .nil
  | n :: ns => .cons (.int n) (da_ints a H ns)
theorem We.nt {a p : Addr} {H : Hp} {xs : List V} (w : We a H) (h : H p = some (.tup xs)) : p ≠ a := fun z => by
  obtain ⟨x, y, c, e⟩ := w
  rw [z, e] at h; cases h
theorem da_row {a : Addr} {H : Hp} {v : V} {r : List Int} (w : We a H) (h : Ro H v r) : Da a H v (rowD r) := by
  obtain ⟨p, rfl, e⟩ := h
  exact .tup (We.nt w e) e (da_ints a H r)
theorem das_rows {a : Addr} {H : Hp} (w : We a H) : ∀ {xs : List V} {rs : List (List Int)}, RoA H xs rs → DaAll a H xs (rs.map rowD)
  | [], [], _ => .nil
  | [], r :: rs, h => by have := h.1; simp at this
  | x :: xs, [], h => by have := h.1; simp at this
  | x :: xs, r :: rs, h => by
    obtain ⟨r', e1, e2⟩ := h.2 0 x rfl
    cases e1
    refine .cons (da_row w e2) (das_rows w ⟨by have := h.1; simpa using this, fun i v e => ?_⟩)
    obtain ⟨r', e1, e2⟩ := h.2 (i + 1) v (by simpa using e)
    exact ⟨r', by simpa using e1, e2⟩
theorem da_poly {a : Addr} {H : Hp} {v : V} {p : List (List Int)} (w : We a H) (h : Po H v p) : Da a H v (polyD p) := by
  obtain ⟨q, xs, rfl, e, g⟩ := h
  exact .tup (We.nt w e) e (das_rows w g)
theorem nice_row (ns : List Int) : Nice 1 (rowD ns) := nice_tup fun d hd => by
  obtain ⟨i, _, rfl⟩ := List.mem_map.mp hd
  exact nice_int i
theorem nice_poly (p : List (List Int)) : Nice 2 (polyD p) := nice_tup fun d hd => by
  obtain ⟨i, _, rfl⟩ := List.mem_map.mp hd
  exact nice_row i
theorem rowB_ok {r : List Int} (h : okR r) : rowB (rowD r) = true := by
  unfold rowD rowB
  rw [Bool.and_eq_true]
  refine ⟨List.all_eq_true.mpr fun b hb => ?_, ?_⟩
  · rw [List.map_map] at hb
    obtain ⟨i, _, rfl⟩ := List.mem_map.mp hb
    rfl
  · unfold lastD
    rw [List.getLast?_map]
    cases e : r.getLast? with
    | none => rfl
    | some c => simpa [PyData.eqv] using h c e
theorem polyB_ok {p : List (List Int)} (h : okP p) : polyB (polyD p) = true := by
  unfold polyD polyB
  rw [Bool.and_eq_true]
  refine ⟨List.all_eq_true.mpr fun b hb => ?_, ?_⟩
  · rw [List.map_map] at hb
    obtain ⟨r, hr, rfl⟩ := List.mem_map.mp hb
    exact rowB_ok (h.1 r hr)
  · unfold lastD
    rw [List.getLast?_map]
    cases e : p.getLast? with
    | none => rfl
    | some r =>
      have := h.2 r e
      cases r with
      | nil => exact absurd rfl this
      | cons _ _ => simp [rowD, PyData.eqv, PyData.eqvAll]
theorem sm_row {n : Nat} {r : List Int} (h : r.length ≤ n) : Sm 1 n (rowD r) := sm_tup (by rw [List.length_map]; exact h) fun d hd => by
  obtain ⟨i, _, rfl⟩ := List.mem_map.mp hd
  exact sm_int _ _ i
theorem sm_poly {n b : Nat} {p : List (List Int)} (h : Bd n b p) : Sm 2 n (polyD p) := sm_tup (by rw [List.length_map]; exact h.1) fun d hd => by
  obtain ⟨r, hr, rfl⟩ := List.mem_map.mp hd
  exact sm_row (h.2 r hr).1
end K01

set_option Elab.async false
set_option linter.all false
set_option maxRecDepth 100000
set_option maxHeartbeats 4000000
local macro_rules | `(tactic| walk_at "rd") => `(tactic| dsimp only [Evl.tCut, L2.tSeq, L2.tNext, L2.tRet, L2.tRetN, L2.tAsg, L2.gName, L2.tIfS, L2.tDrop, L2.tCons, L2.tNil, L2.tC, L2.tVar, L2.tCB, L2.tAndV, L2.tOrV, L2.tNotV, L2.tB, L2.tTest, L2.tOp, L2.tUn, L2.tNot, L2.tAnd, L2.tOr, L2.tIf, L2.tCall, L2.tTup, L2.tLst, L2.tNotT, L2.tYes, L2.gTup, L2.gCons, L2.gNil, L2.gSub, L2.tBM0, L2.tBM, L2.tWhile, L2.tFor, L2.iRng1, L2.iRng2, L2.tAugS, Tw.iEnumT, L2.tCKw, L2.tAug, L2.ipI, RT.iRevA, L2.tPar, L2.tPar3, L2.tSl, L2.tNoPart, L2.tPart, Tw.tRevT])
namespace K01
open PySem PySem.Spec PyProof.Rows L2 Tw
/-! lists of values that stand for things -/
section
variable {α β : Type}
def RelA (R : Hp → V → α → Prop) (H : Hp) (xs : List V) (rs : List α) : Prop := xs.length = rs.length ∧ ∀ (i : Nat) v, xs[i]? = some v → ∃ r, rs[i]? = some r ∧ R H v r
def Stable (R : Hp → V → α → Prop) : Prop := ∀ H H' v r, Kt H H' → R H v r → R H' v r
theorem RelA.kt {R : Hp → V → α → Prop} (st : Stable R) {H H' : Hp} {xs : List V} {rs : List α} (k : Kt H H') (h : RelA R H xs rs) : RelA R H' xs rs :=
  ⟨h.1, fun i v e => let ⟨r, e1, e2⟩ := h.2 i v e; ⟨r, e1, st _ _ _ _ k e2⟩⟩
theorem RelA.snoc {R : Hp → V → α → Prop} {H : Hp} {xs : List V} {rs : List α} {v : V} {r : α} (h : RelA R H xs rs) (g : R H v r) : RelA R H (xs ++ [v]) (rs ++ [r]) := by
  obtain ⟨h1, h2⟩ := h
  refine ⟨by simp [h1], fun i u e => ?_⟩
  rcases Nat.lt_trichotomy i xs.length with c | c | c
  · rw [List.getElem?_append_left c] at e
    obtain ⟨r', e1, e2⟩ := h2 i u e
    exact ⟨r', by rw [List.getElem?_append_left (by omega)]; exact e1, e2⟩
  · subst c
    rw [List.getElem?_append_right (Nat.le_refl _), Nat.sub_self] at e
    cases e
    refine ⟨r, ?_, g⟩
    rw [h1, List.getElem?_append_right (Nat.le_refl _), Nat.sub_self]
    rfl
  · rw [List.getElem?_eq_none (by simp; omega)] at e
    cases e
theorem RelA.eq_map {f : α → V} {H : Hp} : ∀ {xs : List V} {rs : List α}, RelA (fun _ v r => v = f r) H xs rs → xs = rs.map f
  | [], [], _ => rfl
  | [], r :: rs, h => by have := h.1; simp at this
  | x :: xs, [], h => by have := h.1; simp at this
  | x :: xs, r :: rs, h => by
    obtain ⟨r', e1, e2⟩ := h.2 0 x rfl
    cases e1
    rw [List.map_cons, e2, RelA.eq_map (rs := rs) (xs := xs) (H := H) ⟨by have := h.1; simpa using this, fun i v e => by
      obtain ⟨r', e1, e2⟩ := h.2 (i + 1) v (by simpa using e)
      exact ⟨r', by simpa using e1, e2⟩⟩]
theorem RelA.of_map {f : α → V} {H : Hp} (rs : List α) : RelA (fun _ v r => v = f r) H (rs.map f) rs := ⟨by simp, fun i v e => by
  rw [List.getElem?_map] at e
  cases er : rs[i]? with
  | none => rw [er] at e; cases e
  | some r => rw [er] at e; cases e; exact ⟨r, rfl, rfl⟩⟩
theorem RelA.map {R : Hp → V → α → Prop} {H : Hp} {xs : List V} {rs : List α} (g : α → β) (S : Hp → V → β → Prop) (k : ∀ v r, r ∈ rs → R H v r → S H v (g r)) (h : RelA R H xs rs) : RelA S H xs (rs.map g) :=
  ⟨by rw [List.length_map]; exact h.1, fun i v e => by
    obtain ⟨r, e1, e2⟩ := h.2 i v e
    exact ⟨g r, by rw [List.getElem?_map, e1]; rfl, k v r (List.mem_of_getElem? e1) e2⟩⟩
theorem stable_eq (f : α → V) : Stable (fun _ v r => v = f r) := fun _ _ _ _ _ h => h
theorem stable_ro : Stable Ro := fun _ _ _ _ k h => h.kt k
variable {K : PySem.W.Frag} {te : TE} {i j : Nat} {elt : TE} {vs : List Nat} {σ : L2.St} {H : Hp} {Q : VK} {p : Addr} {xs : List V} {rs : List α} {S : Hp → V → α → Prop} {R : Hp → V → β → Prop} {g : α → β}
theorem rel_step {H1 H2 : Hp} {D : Addr} {m : Nat} {ys : List V} {y : V} {r : α} (sR : Stable R) (nD : H D = none) (hD : H1 D = some (.lst ys)) (s1 : Same H H1) (s2 : Same H1 H2) (er : rs[m]? = some r) (hr : RelA R H1 ys ((rs.take m).map g)) (hy : R H2 y (g r)) :
    H2 D = some (.lst ys) ∧ ys.length = m ∧ Same H (upd H2 D (.lst (ys ++ [y]))) ∧ upd H2 D (.lst (ys ++ [y])) D = some (.lst (ys ++ [y])) ∧ RelA R (upd H2 D (.lst (ys ++ [y]))) (ys ++ [y]) ((rs.take (m + 1)).map g) := by
  have e2 : H2 D = some (.lst ys) := s2 _ _ hD
  have hm : m < rs.length := (List.getElem?_eq_some_iff.mp er).1
  refine ⟨e2, ?_, same_upd (s1.trans s2) nD, upd_same, ?_⟩
  · rw [hr.1, List.length_map, List.length_take]; omega
  · rw [List.take_add_one, er, List.map_append]
    exact ((hr.kt sR (Kt.of s2)).snoc hy).kt sR (kt_upd e2)
/-- [.. for x in t], t a tuple of things -/
theorem lc_relT (sS : Stable S) (sR : Stable R) (hv : σ[i]? = some (some (.ref p))) (ht : H p = some (.tup xs)) (hd : RelA S H xs rs) (hn : rs.length < 100000)
    (hw : ∀ x, wipe ((wipe σ vs).set j (some x)) vs = wipe σ vs)
    (he : ∀ x r H1, r ∈ rs → Same H H1 → S H1 x r → ∀ Z : VK, (∀ y H2, Same H1 H2 → R H2 y (g r) → Z y H2) → elt ((wipe σ vs).set j (some x)) H1 Z)
    (q : ∀ D ys H', Same H H' → H D = none → H' D = some (.lst ys) → RelA R H' ys (rs.map g) → Q (.ref D) H') : tLc (iTup K (tVar i)) (gName j) tYes elt vs σ H Q := by
  refine ⟨.ref p, hv, p, rfl, ⟨xs, SqT.of ht⟩, fun D hD => ?_⟩
  refine lc_tup (xs := xs) (fun m H' => Same H H' ∧ ∃ ys, H' D = some (.lst ys) ∧ RelA R H' ys ((rs.take m).map g)) ⟨same_new hD, [], upd_same, rfl, fun i v e => by simp at e⟩ (fun m H' _ h => SqT.of (h.1 _ _ ht)) (fun m x H1 hx h => ?_) (fun H' h => ?_)
  · obtain ⟨h1, ys, h2, h3⟩ := h
    obtain ⟨r, e1, e2⟩ := hd.2 m x hx
    have hm : m < xs.length := (List.getElem?_eq_some_iff.mp hx).1
    have hx2 := hd.1
    refine ⟨hw x, ?_⟩
    unfold tYes
    simp only [if_true]
    refine he x r H1 (List.mem_of_getElem? e1) h1 (sS _ _ _ _ (Kt.of h1) e2) _ fun y H2 s2 ry => ?_
    obtain ⟨a1, a2, a3, a4, a5⟩ := rel_step sR hD h2 h1 s2 e1 h3 ry
    exact ⟨ys, a1, lt_line (by omega), a3, _, a4, a5⟩
  · obtain ⟨h1, ys, h2, h3⟩ := h
    rw [hd.1, List.take_length] at h3
    exact q D ys H' h1 hD h2 h3
/-- .. t a list -/
theorem lc_relL (sS : Stable S) (sR : Stable R) (hv : σ[i]? = some (some (.ref p))) (ht : H p = some (.lst xs)) (hd : RelA S H xs rs) (hn : rs.length < 100000)
    (hw : ∀ x, wipe ((wipe σ vs).set j (some x)) vs = wipe σ vs)
    (he : ∀ x r H1, r ∈ rs → Same H H1 → S H1 x r → ∀ Z : VK, (∀ y H2, Same H1 H2 → R H2 y (g r) → Z y H2) → elt ((wipe σ vs).set j (some x)) H1 Z)
    (q : ∀ D ys H', Same H H' → H D = none → H' D = some (.lst ys) → RelA R H' ys (rs.map g) → Q (.ref D) H') : tLc (iList K (tVar i)) (gName j) tYes elt vs σ H Q := by
  refine ⟨.ref p, hv, p, rfl, ⟨xs, SqL.of ht⟩, fun D hD => ?_⟩
  refine lc_list (xs := xs) (fun m H' => Same H H' ∧ ∃ ys, H' D = some (.lst ys) ∧ RelA R H' ys ((rs.take m).map g)) ⟨same_new hD, [], upd_same, rfl, fun i v e => by simp at e⟩ (fun m H' _ h => SqL.of (h.1 _ _ ht)) (fun m x H1 hx h => ?_) (fun H' h => ?_)
  · obtain ⟨h1, ys, h2, h3⟩ := h
    obtain ⟨r, e1, e2⟩ := hd.2 m x hx
    have hm : m < xs.length := (List.getElem?_eq_some_iff.mp hx).1
    have hx2 := hd.1
    refine ⟨hw x, ?_⟩
    unfold tYes
    simp only [if_true]
    refine he x r H1 (List.mem_of_getElem? e1) h1 (sS _ _ _ _ (Kt.of h1) e2) _ fun y H2 s2 ry => ?_
    obtain ⟨a1, a2, a3, a4, a5⟩ := rel_step sR hD h2 h1 s2 e1 h3 ry
    exact ⟨ys, a1, lt_line (by omega), a3, _, a4, a5⟩
  · obtain ⟨h1, ys, h2, h3⟩ := h
    rw [hd.1, List.take_length] at h3
    exact q D ys H' h1 hD h2 h3
end
/-- a fraction in memory -/
def Pr (H : Hp) (v : V) (a b : Int) : Prop := ∃ p, v = .ref p ∧ H p = some (.tup [.int a, .int b])
theorem Pr.kt {H H' : Hp} {v : V} {a b : Int} (k : Kt H H') (h : Pr H v a b) : Pr H' v a b := by
  obtain ⟨p, e, f⟩ := h
  exact ⟨p, e, k _ _ f⟩
theorem Pr.ix0 {K : PySem.W.Frag} {H : Hp} {v : V} {a b : Int} {Q : VK} (h : Pr H v a b) (q : Q (.int a) H) : rIxT K v (.int 0) H Q := by
  obtain ⟨p, rfl, f⟩ := h
  exact ⟨p, _, 0, .int a, rfl, rfl, SqT.of f, rfl, q⟩
theorem Pr.ix1 {K : PySem.W.Frag} {H : Hp} {v : V} {a b : Int} {Q : VK} (h : Pr H v a b) (q : Q (.int b) H) : rIxT K v (.int 1) H Q := by
  obtain ⟨p, rfl, f⟩ := h
  exact ⟨p, _, 1, .int b, rfl, rfl, SqT.of f, rfl, q⟩
def spCommon : Sp := fun vs H Q _ => ∃ i j : Int, vs = [.int i, .int j] ∧ ∀ H', Same H H' → Q (.int (Nat.gcd i.natAbs j.natAbs : Nat)) H'
def spLean : Sp := fun vs H Q _ => ∃ i j : Int, vs = [.int i, .int j] ∧ 0 < j ∧ j < 1073741824 ∧ ∀ v a b H', Same H H' → Pr H' v a b → Lo a b i j → Q v H'
section
variable {P : Program} {w : World} {K : PySem.W.Frag} {mg : Str → Option Value} {base : Heap}
theorem gcd_turn {f r : Nat} : Nat.gcd r (f % r) = Nat.gcd f r := by
  rw [Nat.gcd_comm f r, Nat.gcd_rec r f, Nat.gcd_comm]
theorem scCommon : FnScope ["_law_one", "_law_two", "_law_far", "_law_rest"] ["_law_one", "_law_two"] (defScope sCommon) := ⟨rfl, rfl, rfl, by decide +kernel, rfl, by decide +kernel, by decide +kernel⟩
theorem ok_common (D : Def K mg "_law_common" sCommon ["_law_one", "_law_two"]) (nb : Nb mg) : Cal P w K mg base "_law_common" 1 ["_law_one", "_law_two"] spCommon := by
  refine D.ok scCommon (fun vs H Q E h => ?_) (fun f cdv A out s H vs Q E hr h => ?_)
  · obtain ⟨i, j, rfl, _⟩ := h; rfl
  obtain ⟨i, j, rfl, q⟩ := h
  refine ⟨_, pss_cons (ps_par (i := 2) (j := 3) rfl scCommon.nd rfl rfl (by decide) rfl rfl (pa_cons (pe_callB (id := "abs") call_abs (by rfl) nb.abs (by decide +kernel) (pa_cons (pv 0) pa_nil)) (pa_cons (pe_callB (id := "abs") call_abs (by rfl) nb.abs (by decide +kernel) (pa_cons (pv 1) pa_nil)) pa_nil)) rfl)
    (pss_cons (ps_while PassesOwn.never (pt_cmpR op_ne (pv 3) pe_int (nomark _))
      (pss_one (ps_par (i := 2) (j := 3) rfl scCommon.nd rfl rfl (by decide) rfl rfl (pa_cons (pv 3) (pa_cons (pe_op op_mod (pe_callTy (T := "int") call_int1 (by rfl) nb.int (by decide +kernel) (pa_cons (pv 2) pa_nil)) (pv 3)) pa_nil)) rfl)))
    (pss_one (ps_ret (pv 2)))), ?_⟩
  walk_at "rd"
  refine ⟨.int i, rfl, i, rfl, .int j, rfl, j, rfl, _, _, rfl, ?_⟩
  have ei : (if i < 0 then -i else i) = (i.natAbs : Int) := by split <;> omega
  have ej : (if j < 0 then -j else j) = (j.natAbs : Int) := by split <;> omega
  refine ⟨fun m σ H' => ∃ f r : Nat, m = r ∧ σ = [some (.int i), some (.int j), some (.int (f : Int)), some (.int (r : Int))] ∧ Same H H' ∧ Nat.gcd f r = Nat.gcd i.natAbs j.natAbs, ⟨j.natAbs, i.natAbs, j.natAbs, rfl, by rw [ei, ej]; rfl, Same.refl H, rfl⟩, ?_⟩
  rintro m σ H1 ⟨f, r, rfl, rfl, s1, g⟩
  refine ⟨.int m, rfl, rfl, _, rfl, ?_⟩
  rw [dec_int]
  by_cases c : m = 0
  · subst c
    refine iteF ⟨_, rfl, ?_⟩
    rw [Nat.gcd_zero_right] at g
    rw [g]
    exact q _ s1
  · rw [show ((m : Int) == 0) = false from beq_eq_false_iff_ne.mpr (by omega)]
    refine iteT ⟨fun σ' H' => ∃ m' f : Nat, m' < m ∧ σ' = [some (.int i), some (.int j), some (.int (f : Int)), some (.int (m' : Int))] ∧ Same H H' ∧ Nat.gcd f m' = Nat.gcd i.natAbs j.natAbs, fun σ' H' ⟨m', f', a1, a2, a3, a4⟩ => ⟨m', a1, f', m', rfl, a2, a3, a4⟩, ?_⟩
    refine ⟨.int m, rfl, .int f, rfl, .inl ⟨f, rfl, .int m, rfl, f, m, rfl, rfl, by show (0 : Int) < _; omega, _, _, rfl, ?_⟩⟩
    exact ⟨f % m, m, Nat.mod_lt _ (by omega), rfl, s1, by rw [gcd_turn]; exact g⟩

theorem scLean : FnScope ["_law_top", "_law_base", "_law_far"] ["_law_top", "_law_base"] (defScope sLean) := ⟨rfl, rfl, rfl, by decide +kernel, rfl, by decide +kernel, by decide +kernel⟩
theorem ok_lean (D : Def K mg "_law_lean" sLean ["_law_top", "_law_base"]) (c1 : Cal P w K mg base "_law_common" 1 ["_law_one", "_law_two"] spCommon) : Cal P w K mg base "_law_lean" 2 ["_law_top", "_law_base"] spLean := by
  refine D.ok scLean (fun vs H Q E h => ?_) (fun f cdv A out s H vs Q E hr h => ?_)
  · obtain ⟨i, j, rfl, _⟩ := h; rfl
  obtain ⟨i, j, rfl, j0, j1, q⟩ := h
  refine ⟨_, pss_cons (ps_set (i := 2) scLean.nd rfl (Or.inl rfl) (pe_ifExp (pt_cmpR op_gt (pv 1) pe_int (nomark _)) (pe_cal c1 hr (Nat.le_refl 1) (by rfl) (pa_cons (pv 0) (pa_cons (pv 1) pa_nil)))
      (pe_op op_sub pe_int (pe_cal c1 hr (Nat.le_refl 1) (by rfl) (pa_cons (pv 0) (pa_cons (pv 1) pa_nil))))))
    (pss_one (ps_ret (pe_tup (pa_cons (pe_op op_fdiv (pv 0) (pv 2)) (pa_cons (pe_op op_fdiv (pv 1) (pv 2)) pa_nil))))), ?_⟩
  walk_at "rd"
  refine ⟨.int j, rfl, j, 0, rfl, rfl, _, rfl, ite2 (fun c => ?_) (fun c => absurd (decide_eq_true j0) c)⟩
  refine ⟨.int i, rfl, .int j, rfl, i, j, rfl, fun H1 s1 => ?_⟩
  have g0 : 0 < Nat.gcd i.natAbs j.natAbs := Nat.gcd_pos_of_pos_right _ (by omega)
  have g1 : Nat.gcd i.natAbs j.natAbs ≤ j.natAbs := Nat.gcd_le_right _ (by omega)
  refine ⟨.int i, rfl, _, rfl, i, _, rfl, rfl, ⟨by omega, by omega⟩, .int j, rfl, _, rfl, j, _, rfl, rfl, ⟨by omega, by omega⟩, sz (by simp), fun t nt => ?_⟩
  exact q _ _ _ _ (s1.trans (same_new nt)) ⟨t, rfl, upd_same⟩ (lo_lean j0)
end
/-- a new well -/
def spWell (K : PySem.W.Frag) : Sp := fun vs H Q _ => ∃ (p : Addr) (ns : List Int) (k : Int), vs = [.ref p, .int k] ∧ SqL K H p (ns.map V.int) ∧ ns.length ≤ 63 ∧ 0 ≤ k ∧ ∀ a H', Same H H' → H a = none → We a H' → Q (.ref a) H'
def spLaw (K : PySem.W.Frag) : Sp := fun vs H Q _ => ∃ (p : Addr) (ns : List Int), vs = [.ref p] ∧ SqL K H p (ns.map V.int) ∧ ns.length ≤ 63 ∧ ∀ H', Q (.bl true) H'
section
variable {P : Program} {w : World} {K : PySem.W.Frag} {mg : Str → Option Value} {base : Heap}
theorem scWell : FnScope ["_law_script", "_law_at", "_law_mixed", "_law_cell", "_law_own"] ["_law_script", "_law_at"] (defScope sWell) := ⟨rfl, rfl, rfl, by decide +kernel, rfl, by decide +kernel, by decide +kernel⟩
theorem ok_well (D : Def K mg "_law_well" sWell ["_law_script", "_law_at"]) (nb : Nb mg) : Cal P w K mg base "_law_well" 1 ["_law_script", "_law_at"] (spWell K) := by
  refine D.ok scWell (fun vs H Q E h => ?_) (fun f cdv A out s H vs Q E hr h => ?_)
  · obtain ⟨p, ns, k, rfl, _⟩ := h; rfl
  obtain ⟨p, ns, k, rfl, hp, hl, k0, q⟩ := h
  refine ⟨_, pss_cons (ps_set (i := 2) scWell.nd rfl (Or.inl rfl) (pe_op op_add pe_int (pe_op op_mul pe_int (pv 1))))
    (pss_cons (ps_for PassesOwn.never rfl (pi_list (pe_slice sl_list (pv 0) po_none (po_some pe_int))) (pg_name (i := 3) scWell.nd rfl (Or.inl rfl))
        (pss_one (ps_set (i := 2) scWell.nd rfl (Or.inl rfl) (pe_op op_mod (pe_callTy (T := "int") call_int1 (by rfl) nb.int (by decide +kernel)
          (pa_cons (pe_op op_add (pe_op op_add (pe_op op_mul (pv 2) pe_int) (pe_op op_mod (pe_callTy (T := "int") call_int1 (by rfl) nb.int (by decide +kernel) (pa_cons (pv 3) pa_nil)) pe_int)) pe_int) pa_nil)) pe_int))))
    (Evl.pss_cut (ps_set (i := 4) scWell.nd rfl (Or.inl rfl) (pe_ifExp (pt_cmpR op_lt (pv 1) (pe_callB (id := "len") call_len_seq (by rfl) nb.len PySem.boot_len (pa_cons (pv 0) pa_nil)) (nomark _))
        (pe_callTy (T := "int") call_int1 (by rfl) nb.int (by decide +kernel) (pa_cons (pe_ix ix_list (pv 0) (pv 1) (fun _ _ => rfl)) pa_nil)) pe_int))
    (pss_cons (ps_set (i := 2) scWell.nd rfl (Or.inl rfl) (pe_op op_mod (pe_callTy (T := "int") call_int1 (by rfl) nb.int (by decide +kernel)
        (pa_cons (pe_op op_add (pe_op op_add (pe_op op_mul (pv 2) pe_int) (pe_op op_mul (pe_op op_mod (pe_callTy (T := "int") call_int1 (by rfl) nb.int (by decide +kernel) (pa_cons (pv 4) pa_nil)) pe_int) pe_int)) pe_int) pa_nil)) pe_int))
    (pss_one (ps_ret (pe_lst (pa_cons (pe_ifExp (PW.pt (pw_or (pt_cmpR op_lt (pv 4) pe_int (nomark _)) (pw_or1 (pt_cmpR op_ge (pv 4) (pe_op op_pow pe_int pe_int) (nomark _)))))
        (pe_callB (id := "abs") call_abs (by rfl) nb.abs (by decide +kernel) (pa_cons (pv 4) pa_nil)) pe_int) (pa_cons (pv 2) (pa_cons pe_int pa_nil))))))))), ?_⟩
  walk_at "rd"
  refine ⟨.int k, rfl, _, _, rfl, rfl, .inl ⟨by decide, by decide⟩, _, _, rfl, rfl, .ref p, rfl, 9, rfl, p, _, rfl, hp, fun c nc => ?_⟩
  have s1 := same_new (o := .lst (L2.cutV (ns.map V.int) none (some 9))) nc
  have hc : upd H c (.lst (L2.cutV (ns.map V.int) none (some 9))) c = some (.lst (L2.cutV (ns.map V.int) none (some 9))) := upd_same
  generalize upd H c _ = H1 at s1 hc ⊢
  have hp1 : SqL K H1 p (ns.map V.int) := s1.seq hp
  refine ⟨c, rfl, ⟨_, SqL.of hc⟩, for_lst (xs := L2.cutV (ns.map V.int) none (some 9)) (fun i σ H' => ∃ (mx : Int) (x3 : Option V), σ = [some (.ref p), some (.int k), some (.int mx), x3, none] ∧ H' = H1) ⟨_, none, rfl, rfl⟩ (fun i σ' H' _ h => ?_) (fun i x σ' H' hx h => ?_) (fun σ' H' h => ?_)⟩
  · obtain ⟨mx, x3, rfl, rfl⟩ := h; exact SqL.of hc
  · obtain ⟨mx, x3, rfl, rfl⟩ := h
    obtain ⟨n, _, rfl⟩ : ∃ n, n ∈ ns ∧ V.int n = x := List.mem_map.mp (List.mem_of_mem_drop (List.mem_of_mem_take (List.mem_of_getElem? hx)))
    refine ⟨.int mx, rfl, _, _, rfl, rfl, .inr ⟨by decide, by decide⟩, .int n, rfl, .inl ⟨n, rfl, _, _, rfl, rfl, (by show (0 : Int) < _; decide), _, _, rfl, rfl, _, _, rfl, rfl, .inl ⟨_, rfl, _, _, rfl, rfl, (by show (0 : Int) < _; decide), ?_⟩⟩⟩
    exact ⟨_, some (.int n), rfl, rfl⟩
  · obtain ⟨mx, x3, rfl, rfl⟩ := h
    refine ⟨fun σ2 H2 => ∃ o : Int, σ2 = [some (.ref p), some (.int k), some (.int mx), x3, some (.int o)] ∧ H2 = H', ⟨.int k, rfl, .ref p, rfl, p, _, rfl, .inl hp1, _, _, rfl, rfl, _, rfl, ite2 (fun c1 => ?_) (fun c1 => ⟨0, rfl, rfl⟩)⟩, ?_⟩
    · have c1 := of_decide_eq_true c1
      rw [List.length_map] at c1
      obtain ⟨j, rfl⟩ := Int.eq_ofNat_of_zero_le k0
      have hj : j < ns.length := by omega
      refine ⟨.ref p, rfl, .int j, rfl, p, _, j, .int ns[j], rfl, rfl, hp1, atI_nat (by rw [List.getElem?_map, List.getElem?_eq_getElem hj]; rfl), .inl ⟨_, rfl, ns[j], rfl, rfl⟩⟩
    · rintro σ2 H2 ⟨o, rfl, rfl⟩
      refine ⟨.int mx, rfl, _, _, rfl, rfl, .inr ⟨by decide, by decide⟩, .int o, rfl, .inl ⟨o, rfl, _, _, rfl, rfl, (by show (0 : Int) < _; decide), _, _, rfl, rfl, .inr ⟨by decide, by decide⟩, _, _, rfl, rfl, _, _, rfl, rfl, .inl ⟨_, rfl, _, _, rfl, rfl, (by show (0 : Int) < _; decide), ?_⟩⟩⟩
      have fin : ∀ x y : Int, [V.int x, .int y, .int 0].length ≤ sizeLine ∧ ∀ a, H2 a = none → Q (.ref a) (upd H2 a (.lst [.int x, .int y, .int 0])) := fun x y => ⟨sz (by simp), fun a na => q a _ (s1.trans (same_new na)) (s1.free na) ⟨_, _, _, upd_same⟩⟩
      refine ⟨.int o, rfl, _, _, rfl, rfl, _, rfl, ite2 (fun c1 => ?_) (fun c1 => ?_)⟩
      · exact iteT ⟨.int o, rfl, o, rfl, _, rfl, fin _ _⟩
      · refine ⟨.int o, rfl, _, _, rfl, rfl, ⟨by decide, by decide, by decide⟩, _, _, rfl, rfl, _, rfl, ite2 (fun c2 => ?_) (fun c2 => ?_)⟩
        · exact ⟨.int o, rfl, o, rfl, _, rfl, fin _ _⟩
        · exact ⟨_, rfl, fin _ _⟩

end
end K01

set_option Elab.async false
set_option linter.all false
set_option maxRecDepth 100000
set_option maxHeartbeats 4000000
local macro_rules | `(tactic| walk_at "rd") => `(tactic| dsimp only [Evl.tCut, L2.tSeq, L2.tNext, L2.tRet, L2.tRetN, L2.tAsg, L2.gName, L2.tIfS, L2.tDrop, L2.tCons, L2.tNil, L2.tC, L2.tVar, L2.tCB, L2.tAndV, L2.tOrV, L2.tNotV, L2.tB, L2.tTest, L2.tOp, L2.tUn, L2.tNot, L2.tAnd, L2.tOr, L2.tIf, L2.tCall, L2.tTup, L2.tLst, L2.tNotT, L2.tYes, L2.gTup, L2.gCons, L2.gNil, L2.gSub, L2.tBM0, L2.tBM, L2.tWhile, L2.tFor, L2.iRng1, L2.iRng2, L2.tAugS, Tw.iEnumT, L2.tCKw, L2.tAug, L2.ipI, RT.iRevA, L2.tPar, L2.tPar3, L2.tSl, L2.tNoPart, L2.tPart, Tw.tRevT])
namespace K01

open PySem PySem.Spec PyProof.Rows L2 Tw
theorem lo_num' {a b N D : Int} (h : Lo a b N D) (d0 : 0 < D) : a.natAbs ≤ N.natAbs := lo_num h d0
def Sp2 (n m : Int) : Prop := n.natAbs ≤ 1000000 ∧ 0 < m ∧ m ≤ 7 ∧ Nat.gcd n.natAbs m.natAbs = 1
def spInt : Sp := fun vs H Q _ => ∃ a, vs = [.ref a] ∧ We a H ∧ ∀ (i : Int) H', i.natAbs ≤ 1000000 → Kp a H H' → We a H' → Q (.int i) H'
def spPart : Sp := fun vs H Q _ => ∃ a, vs = [.ref a] ∧ We a H ∧ ∀ v n m H', Kp a H H' → We a H' → Pr H' v n m → Sp2 n m → Q v H'
def spTrimI : Sp := fun vs H Q _ => ∃ p l, vs = [.ref p] ∧ (H p = some (.lst (l.map V.int)) ∨ H p = some (.tup (l.map V.int))) ∧ l.length ≤ 1000 ∧ ∀ v H', Same H H' → Ro H' v (trimI l) → Q v H'
def spRowM : Sp := fun vs H Q _ => ∃ a n, vs = [.ref a, .int n] ∧ We a H ∧ 0 ≤ n ∧ n ≤ 100 ∧ ∀ v ns H', Kp a H H' → We a H' → Ro H' v ns → okR ns → (ns.length : Int) ≤ n → (∀ c ∈ ns, c.natAbs ≤ 1000000) → Q v H'
section
variable {P : Program} {w : World} {K : PySem.W.Frag} {mg : Str → Option Value} {base : Heap}
theorem scSmall : FnScope ["_law_well_here", "_law_branch"] ["_law_well_here"] (defScope sSmall) := ⟨rfl, rfl, rfl, by decide +kernel, rfl, by decide +kernel, by decide +kernel⟩
theorem ok_small (D : Def K mg "_law_small" sSmall ["_law_well_here"]) (c1 : Cal P w K mg base "_law_draw" 1 ["_law_well_here", "_law_few"] spDraw) : Cal P w K mg base "_law_small" 2 ["_law_well_here"] spInt := by
  refine D.ok scSmall (fun vs H Q E h => ?_) (fun f cdv A out s H vs Q E hr h => ?_)
  · obtain ⟨a, rfl, _⟩ := h; rfl
  obtain ⟨a, rfl, hw, q⟩ := h
  refine ⟨_, pss_cons (ps_set (i := 1) scSmall.nd rfl (Or.inl rfl) (pe_cal c1 hr (by decide) (by rfl) (pa_cons (pv 0) (pa_cons pe_int pa_nil))))
    (pss_cons (ps_if (pt_cmpR op_lt (pv 1) pe_int (nomark _)) (pss_one (ps_ret (pe_op op_sub (pe_cal c1 hr (by decide) (by rfl) (pa_cons (pv 0) (pa_cons pe_int pa_nil))) pe_int))) pss_nil)
    (pss_one (ps_ret (pe_ifExp (pt_cmpR op_lt (pv 1) pe_int (nomark _)) (pe_op op_sub (pe_cal c1 hr (by decide) (by rfl) (pa_cons (pv 0) (pa_cons pe_int pa_nil))) pe_int)
      (pe_op op_sub (pe_cal c1 hr (by decide) (by rfl) (pa_cons (pv 0) (pa_cons pe_int pa_nil))) pe_int))))), ?_⟩
  walk_at "rd"
  refine ⟨.ref a, rfl, a, _, rfl, hw, by decide, by decide, fun d H1 d0 d1 k1 w1 => ?_⟩
  refine ⟨.int d, rfl, _, _, rfl, rfl, _, rfl, ite2 (fun c => ?_) (fun c => ?_)⟩
  · refine ⟨.ref a, rfl, a, _, rfl, w1, by decide, by decide, fun e H2 e0 e1 k2 w2 => ⟨e, _, rfl, rfl, q _ H2 (by omega) (k1.trans k2) w2⟩⟩
  · refine ⟨.int d, rfl, _, _, rfl, rfl, _, rfl, ite2 (fun c => ?_) (fun c => ?_)⟩
    · refine ⟨.ref a, rfl, a, _, rfl, w1, by decide, by decide, fun e H2 e0 e1 k2 w2 => ⟨e, _, rfl, rfl, q _ H2 (by omega) (k1.trans k2) w2⟩⟩
    · refine ⟨.ref a, rfl, a, _, rfl, w1, by decide, by decide, fun e H2 e0 e1 k2 w2 => ⟨e, _, rfl, rfl, q _ H2 (by omega) (k1.trans k2) w2⟩⟩
theorem scPart : FnScope ["_law_well_here", "_law_top"] ["_law_well_here"] (defScope sPart) := ⟨rfl, rfl, rfl, by decide +kernel, rfl, by decide +kernel, by decide +kernel⟩
theorem ok_part (D : Def K mg "_law_part" sPart ["_law_well_here"]) (c1 : Cal P w K mg base "_law_small" 2 ["_law_well_here"] spInt) (c2 : Cal P w K mg base "_law_lean" 2 ["_law_top", "_law_base"] spLean) (c3 : Cal P w K mg base "_law_pick" 2 ["_law_well_here", "_law_some"] spPick) : Cal P w K mg base "_law_part" 3 ["_law_well_here"] spPart := by
  refine D.ok scPart (fun vs H Q E h => ?_) (fun f cdv A out s H vs Q E hr h => ?_)
  · obtain ⟨a, rfl, _⟩ := h; rfl
  obtain ⟨a, rfl, hw, q⟩ := h
  refine ⟨_, pss_cons (ps_set (i := 1) scPart.nd rfl (Or.inl rfl) (pe_cal c1 hr (by decide) (by rfl) (pa_cons (pv 0) pa_nil)))
    (pss_one (ps_ret (pe_cal c2 hr (by decide) (by rfl) (pa_cons (pv 1) (pa_cons (pe_cal c3 hr (by decide) (by rfl) (pa_cons (pv 0) (pa_cons (pe_tup (pa_cons pe_int (pa_cons pe_int (pa_cons pe_int (pa_cons pe_int (pa_cons pe_int (pa_cons pe_int (pa_cons pe_int (pa_cons pe_int pa_nil))))))))) pa_nil))) pa_nil))))), ?_⟩
  walk_at "rd"
  refine ⟨.ref a, rfl, a, rfl, hw, fun i H1 hi k1 w1 => ⟨.int i, rfl, .ref a, rfl, sz (by simp), fun t nt => ?_⟩⟩
  have s2 := same_new (o := .tup [.int 1, .int 1, .int 1, .int 2, .int 3, .int 1, .int 4, .int 7]) nt
  refine ⟨a, t, _, rfl, w1.to s2, w1.ne nt, upd_same, by simp, by simp, fun j x H3 hj k3 w3 => ?_⟩
  obtain ⟨b, rfl, b0, b7⟩ : ∃ b : Int, x = .int b ∧ 0 < b ∧ b ≤ 7 := by
    have := List.mem_of_getElem? hj
    simp only [List.mem_cons, List.not_mem_nil, or_false] at this
    rcases this with rfl | rfl | rfl | rfl | rfl | rfl | rfl | rfl <;> exact ⟨_, rfl, by decide, by decide⟩
  refine ⟨i, b, rfl, b0, by omega, fun v x y H4 s4 p4 l4 => ?_⟩
  have hx := lo_num' l4 b0
  have hy := lo_le l4 b0
  exact q v x y H4 (((k1.trans (Kp.of s2)).trans k3).trans (Kp.of s4)) (w3.to s4) p4 ⟨by omega, l4.1, by omega, l4.2.1⟩
end
end K01

set_option Elab.async false
set_option linter.all false
set_option maxRecDepth 100000
set_option maxHeartbeats 8000000
local macro_rules | `(tactic| walk_at "rd") => `(tactic| dsimp only [Evl.tCut, L2.tSeq, L2.tNext, L2.tRet, L2.tRetN, L2.tAsg, L2.gName, L2.tIfS, L2.tDrop, L2.tCons, L2.tNil, L2.tC, L2.tVar, L2.tCB, L2.tAndV, L2.tOrV, L2.tNotV, L2.tB, L2.tTest, L2.tOp, L2.tUn, L2.tNot, L2.tAnd, L2.tOr, L2.tIf, L2.tCall, L2.tTup, L2.tLst, L2.tNotT, L2.tYes, L2.gTup, L2.gCons, L2.gNil, L2.gSub, L2.tBM0, L2.tBM, L2.tWhile, L2.tFor, L2.iRng1, L2.iRng2, L2.tAugS, Tw.iEnumT, L2.tCKw, L2.tAug, L2.ipI, RT.iRevA, L2.tPar, L2.tPar3, L2.tSl, L2.tNoPart, L2.tPart, Tw.tRevT])
namespace K01
open PySem PySem.Spec PyProof.Rows L2 Tw
/-! how large data are -/
mutual
def nd : PyData → Nat
  | .str x => x.cps.size + 1
  | .list ds => nd1 ds + 1
  | .tuple ds => nd1 ds + 1
  | _ => 1
def nd1 : List PyData → Nat
  | [] => 0
  | d :: ds => nd d + nd1 ds
end
mutual
def lf (b : Nat) : PyData → Bool
  | .int i => decide (i.natAbs ≤ b)
  | .str x => x.cps.toList.all fun c => decide (c < 16 ^ 8)
  | .list ds => lf1 b ds
  | .tuple ds => lf1 b ds
  | .dict kvs => kvs.isEmpty
  | _ => true
def lf1 (b : Nat) : List PyData → Bool
  | [] => true
  | d :: ds => lf b d && lf1 b ds
end
/-- leaves no longer than b, w things in all -/
def Ls (b w : Nat) (d : PyData) : Prop := lf b d = true ∧ nd d ≤ w
theorem lf1_mem {b : Nat} : ∀ {ds : List PyData} {d : PyData}, lf1 b ds = true → d ∈ ds → lf b d = true
  | e :: ds, d, h, m => by
    rw [lf1, Bool.and_eq_true] at h
    rcases List.mem_cons.mp m with rfl | m
    · exact h.1
    · exact lf1_mem h.2 m
theorem lf1_of {b : Nat} : ∀ {ds : List PyData}, (∀ d ∈ ds, lf b d = true) → lf1 b ds = true
  | [], _ => by rw [lf1]
  | e :: ds, h => by rw [lf1, h e (by simp), lf1_of fun d m => h d (by simp [m])]; rfl
theorem nd1_mem : ∀ {ds : List PyData} {d : PyData}, d ∈ ds → nd d ≤ nd1 ds
  | e :: ds, d, m => by
    rw [nd1]
    rcases List.mem_cons.mp m with rfl | m
    · omega
    · have := nd1_mem m; omega
theorem nd1_app : ∀ ds es : List PyData, nd1 (ds ++ es) = nd1 ds + nd1 es
  | [], es => by rw [List.nil_append, nd1]; omega
  | d :: ds, es => by rw [List.cons_append, nd1, nd1, nd1_app ds es]; omega
theorem nd1_rev : ∀ ds : List PyData, nd1 ds.reverse = nd1 ds
  | [] => rfl
  | d :: ds => by rw [List.reverse_cons, nd1_app, nd1_rev ds, nd1, nd1, nd1]; omega
theorem nd1_cut (ds : List PyData) (k : Nat) : nd1 (ds.take k) + nd1 (ds.drop k) = nd1 ds := by
  rw [← nd1_app, List.take_append_drop]
theorem nd1_take (ds : List PyData) (k : Nat) : nd1 (ds.take k) ≤ nd1 ds := by have := nd1_cut ds k; omega
theorem nd1_drop (ds : List PyData) (k : Nat) : nd1 (ds.drop k) ≤ nd1 ds := by have := nd1_cut ds k; omega
theorem nd1_cutD (ds : List PyData) (lo hi : Option Int) : nd1 (Tw.cutD ds lo hi) ≤ nd1 ds := Nat.le_trans (nd1_take _ _) (nd1_drop _ _)
theorem nd_pos (d : PyData) : 1 ≤ nd d := by
  cases d <;> simp only [nd] <;> omega
theorem nd1_two (ds : List PyData) (j : Nat) : nd1 (Tw.cutD ds none (some (j : Int))) + nd1 (Tw.cutD ds (some ((j + 1 : Nat) : Int)) none) ≤ nd1 ds := by
  unfold Tw.cutD
  rw [HT.sIx_nat, HT.sIx_none, HT.sIx_nat, HT.sIx_none, List.drop_zero, Nat.sub_zero]
  have h1 := nd1_take (ds.drop (min (j + 1) ds.length)) (ds.length - min (j + 1) ds.length)
  by_cases c : j < ds.length
  · rw [Nat.min_eq_left (by omega : j ≤ ds.length)]
    rw [Nat.min_eq_left (by omega : j + 1 ≤ ds.length)] at h1 ⊢
    have h2 := nd1_cut ds j
    have h3 : nd1 (ds.drop (j + 1)) ≤ nd1 (ds.drop j) := by
      rw [← List.drop_drop]; exact nd1_drop _ 1
    omega
  · rw [Nat.min_eq_right (by omega : ds.length ≤ j)]
    rw [Nat.min_eq_right (by omega : ds.length ≤ j + 1)] at h1 ⊢
    rw [List.drop_length] at h1 ⊢
    have h2 := nd1_take ds ds.length
    have h4 : nd1 [] = 0 := rfl
    omega
mutual
theorem lf_up {b c : Nat} (h : b ≤ c) : ∀ {d : PyData}, lf b d = true → lf c d = true
  | .int i, z => by rw [lf] at z ⊢; exact decide_eq_true (Nat.le_trans (of_decide_eq_true z) h)
  | .str x, z => by rw [lf] at z ⊢; exact z
  | .list ds, z => by rw [lf] at z ⊢; exact lf1_up h z
  | .tuple ds, z => by rw [lf] at z ⊢; exact lf1_up h z
  | .dict kvs, z => by rw [lf] at z ⊢; exact z
  | .none, z => by rw [lf] <;> nofun
  | .bool _, z => by rw [lf] <;> nofun
theorem lf1_up {b c : Nat} (h : b ≤ c) : ∀ {ds : List PyData}, lf1 b ds = true → lf1 c ds = true
  | [], z => by rw [lf1]
  | d :: ds, z => by
    rw [lf1, Bool.and_eq_true] at z ⊢
    exact ⟨lf_up h z.1, lf1_up h z.2⟩
end
theorem Ls.up {b w b' w' : Nat} {d : PyData} (h : Ls b w d) (h1 : b ≤ b') (h2 : w ≤ w') : Ls b' w' d := ⟨lf_up h1 h.1, Nat.le_trans h.2 h2⟩
theorem Ls.mem {b w : Nat} {ds : List PyData} {d : PyData} (h : Ls b w (.tuple ds)) (m : d ∈ ds) : Ls b w d := by
  obtain ⟨h1, h2⟩ := h
  rw [lf] at h1
  rw [nd] at h2
  have := nd1_mem m
  exact ⟨lf1_mem h1 m, by omega⟩
theorem Ls.nd {b w : Nat} {ds : List PyData} (h : Ls b w (.tuple ds)) : nd1 ds + 1 ≤ w := by
  have := h.2
  rw [K01.nd] at this
  exact this
theorem ls_sub {b b' w w' : Nat} {ds es : List PyData} (h : Ls b w (.tuple ds)) (hb : b ≤ b') (hn : nd1 es + 1 ≤ w') (he : ∀ e ∈ es, e ∈ ds ∨ lf b' e = true) : Ls b' w' (.tuple es) := by
  refine ⟨?_, by rw [K01.nd]; exact hn⟩
  rw [lf]
  refine lf1_of fun e m => ?_
  rcases he e m with c | c
  · exact ((h.mem c).up hb (Nat.le_refl _)).1
  · exact c
theorem ls_subL {b b' w w' : Nat} {ds es : List PyData} (h : Ls b w (.tuple ds)) (hb : b ≤ b') (hn : nd1 es + 1 ≤ w') (he : ∀ e ∈ es, e ∈ ds ∨ lf b' e = true) : Ls b' w' (.list es) := by
  have z := ls_sub h hb hn he
  obtain ⟨z1, z2⟩ := z
  rw [lf] at z1
  rw [K01.nd] at z2
  exact ⟨by rw [lf]; exact z1, by rw [K01.nd]; exact z2⟩
theorem ls_int {b w : Nat} {i : Int} (h : i.natAbs ≤ b) (hw : 1 ≤ w) : Ls b w (.int i) := ⟨by rw [lf]; exact decide_eq_true h, by rw [K01.nd] <;> first | exact hw | nofun⟩
theorem ls_bl {b w : Nat} {x : Bool} (hw : 1 ≤ w) : Ls b w (.bool x) := ⟨by rw [lf] <;> nofun, by rw [K01.nd] <;> first | exact hw | nofun⟩
/-! what of this is told to the writing out -/
def B2 : Nat := 300000000000000000000000000
mutual
theorem lf_show : ∀ {d : PyData}, lf B2 d = true → PyData.showable d = true ∧ PyData.leavesShort 80 d = true
  | .int i, z => by
    rw [lf] at z
    have z := of_decide_eq_true z
    have hc : i.natAbs < 10 ^ 30 := Nat.lt_of_le_of_lt z (by decide)
    refine ⟨?_, ?_⟩
    · rw [PyData.showable]
      refine decide_eq_true ?_
      by_cases c : i.natAbs = 0
      · rw [c]; decide
      · exact Nat.lt_trans ((Nat.log2_lt c).mpr (Nat.lt_of_lt_of_le hc (by decide : 10 ^ 30 ≤ 2 ^ 100))) (by decide)
    · have : (PyData.shown (.int i)).length ≤ 80 := by
        show (Str.ofString (toString i)).length ≤ 80
        rw [PySem.ofString_length]
        exact Nat.le_trans (int_text_length_le10 (k := 30) (by decide) hc) (by decide)
      rw [PyData.leavesShort, decide_eq_true this]
  | .str x, z => by
    rw [lf] at z
    exact ⟨by rw [PyData.showable], by rw [PyData.leavesShort]; exact z⟩
  | .list ds, z => by
    rw [lf] at z
    have := lf1_show z
    exact ⟨by rw [PyData.showable]; exact this.1, by rw [PyData.leavesShort]; exact this.2⟩
  | .tuple ds, z => by
    rw [lf] at z
    have := lf1_show z
    exact ⟨by rw [PyData.showable]; exact this.1, by rw [PyData.leavesShort]; exact this.2⟩
  | .dict kvs, z => by
    rw [lf] at z
    cases kvs with
    | nil => exact ⟨rfl, rfl⟩
    | cons _ _ => cases z
  | .none, _ => ⟨rfl, rfl⟩
  | .bool _, _ => ⟨rfl, rfl⟩
theorem lf1_show : ∀ {ds : List PyData}, lf1 B2 ds = true → PyData.showableAll ds = true ∧ PyData.leavesShortAll 80 ds = true
  | [], _ => ⟨rfl, rfl⟩
  | d :: ds, z => by
    rw [lf1, Bool.and_eq_true] at z
    have h1 := lf_show z.1
    have h2 := lf1_show z.2
    exact ⟨by rw [PyData.showableAll, h1.1, h2.1]; rfl, by rw [PyData.leavesShortAll, h1.2, h2.2]; rfl⟩
end
mutual
theorem bulk_nd {b : Nat} : ∀ {d : PyData}, lf b d = true → PyData.bulk d + 1 ≤ nd d
  | .int i, _ => by rw [PyData.bulk, nd] <;> first | omega | nofun
  | .str x, _ => by rw [PyData.bulk, nd] <;> first | omega | nofun
  | .list ds, z => by
    rw [lf] at z
    have := bulk_nd1 z
    rw [PyData.bulk, nd]; omega
  | .tuple ds, z => by
    rw [lf] at z
    have := bulk_nd1 z
    rw [PyData.bulk, nd]; omega
  | .dict kvs, z => by
    rw [lf] at z
    cases kvs with
    | nil => exact Nat.le_refl _
    | cons _ _ => cases z
  | .none, _ => Nat.le_refl _
  | .bool _, _ => Nat.le_refl _
theorem bulk_nd1 {b : Nat} : ∀ {ds : List PyData}, lf1 b ds = true → PyData.bulkAll ds ≤ nd1 ds
  | [], _ => Nat.le_refl _
  | d :: ds, z => by
    rw [lf1, Bool.and_eq_true] at z
    have h1 := bulk_nd z.1
    have h2 := bulk_nd1 z.2
    rw [PyData.bulkAll, nd1]; omega
end
mutual
theorem depth_dep {b : Nat} : ∀ {d : PyData}, lf b d = true → PyData.depth d ≤ dep d + 1
  | .int i, _ => by rw [PyData.depth]; omega
  | .str x, _ => by rw [PyData.depth]; omega
  | .list ds, z => by
    rw [lf] at z
    have := depth_dep1 z
    rw [PyData.depth, dep]; omega
  | .tuple ds, z => by
    rw [lf] at z
    have := depth_dep1 z
    rw [PyData.depth, dep]; omega
  | .dict kvs, z => by
    rw [lf] at z
    cases kvs with
    | nil => exact Nat.le_add_left _ _
    | cons _ _ => cases z
  | .none, _ => Nat.zero_le _
  | .bool _, _ => Nat.zero_le _
theorem depth_dep1 {b : Nat} : ∀ {ds : List PyData}, lf1 b ds = true → PyData.depthAll ds ≤ dep1 ds + 1
  | [], _ => Nat.zero_le _
  | d :: ds, z => by
    rw [lf1, Bool.and_eq_true] at z
    have h1 := depth_dep z.1
    have h2 := depth_dep1 z.2
    rw [PyData.depthAll, dep1]; omega
end
theorem shown_fit {w : Nat} {d : PyData} (h : Ls B2 w d) (hw : w ≤ 100000) : d.shown.length ≤ sizeLine := by
  have h1 := PyData.shown_le_bulk 80 (by decide) d (lf_show h.1).2
  have h2 := bulk_nd h.1
  have h3 := h.2
  refine Nat.le_trans h1 (Nat.le_trans ?_ (show 16777216 ≤ sizeLine by decide))
  omega
end K01

set_option Elab.async false
set_option linter.all false
set_option maxRecDepth 100000
set_option maxHeartbeats 8000000
local macro_rules | `(tactic| walk_at "rd") => `(tactic| dsimp only [Evl.tCut, L2.tSeq, L2.tNext, L2.tRet, L2.tRetN, L2.tAsg, L2.gName, L2.tIfS, L2.tDrop, L2.tCons, L2.tNil, L2.tC, L2.tVar, L2.tCB, L2.tAndV, L2.tOrV, L2.tNotV, L2.tB, L2.tTest, L2.tOp, L2.tUn, L2.tNot, L2.tAnd, L2.tOr, L2.tIf, L2.tCall, L2.tTup, L2.tLst, L2.tNotT, L2.tYes, L2.gTup, L2.gCons, L2.gNil, L2.gSub, L2.tBM0, L2.tBM, L2.tWhile, L2.tFor, L2.iRng1, L2.iRng2, L2.tAugS, Tw.iEnumT, L2.tCKw, L2.tAug, L2.ipI, RT.iRevA, L2.tPar, L2.tPar3, L2.tSl, L2.tNoPart, L2.tPart, Tw.tRevT])
namespace K01
open PySem PySem.Spec PyProof.Rows L2 Tw
def B1 : Nat := 100000000000000000000000000
def lsB (d : PyData) : Bool := lf B1 d && decide (nd d ≤ 16)
theorem ls_of {d : PyData} (h : lsB d = true) : Ls B1 16 d := by
  unfold lsB at h
  rw [Bool.and_eq_true] at h
  exact ⟨h.1, of_decide_eq_true h.2⟩
/-- how large a bent thing may be -/
def bb (N w : Nat) : Nat := (N + 1) * (2 * w) + 16
def litList (e : Expr) : List PyData := match litOf e with
  | some (.tuple ds) => ds
  | _ => []
def litB (e : Expr) : Bool := match litOf e with
  | some (.tuple ds) => (ds.all (smB 4 10) && ds.all lsB) && decide (0 < ds.length) && decide (ds.length < 900)
  | _ => false
theorem lit_eq {e : Expr} (h : litB e = true) : litOf e = some (.tuple (litList e)) ∧ ((litList e).all (smB 4 10) = true ∧ (litList e).all lsB = true) ∧ 0 < (litList e).length ∧ (litList e).length < 900 := by
  unfold litB at h
  unfold litList
  split at h
  · rename_i ds hd
    rw [Bool.and_eq_true, Bool.and_eq_true] at h
    rw [hd]
    exact ⟨rfl, (by simpa using h.1.1), of_decide_eq_true h.1.2, of_decide_eq_true h.2⟩
  · cases h
def spOdd : Sp := fun vs H Q _ => ∃ a, vs = [.ref a] ∧ We a H ∧ ∀ v d H', Kp a H H' → We a H' → Da a H' v d → Sm 4 10 d → Ls B1 16 d → Q v H'
def spBent (N : Nat) : Sp := fun vs H Q _ => ∃ a v d n m wt, vs = [.ref a, v] ∧ We a H ∧ Da a H v d ∧ Sm n m d ∧ Ls B1 wt d ∧ 1 ≤ wt ∧ n < N ∧ 10 ≤ m ∧ m ≤ 500 ∧
  ∀ v' d' H', Kp a H H' → We a H' → Da a H' v' d' → Sm (n + 5) (m + 1) d' → Ls B2 (bb N wt) d' → Q v' H'
theorem big2 : True := trivial
theorem nu_ls {a : Addr} {H : Hp} {v : V} {d : PyData} {wt : Nat} (h : Da a H v d) (t : isIntD d = true) (l : Ls B1 wt d) : ∃ i, Nu v i ∧ i.natAbs ≤ B1 := by
  cases h with
  | int i =>
    have z := l.1
    rw [lf] at z
    exact ⟨i, .int i, of_decide_eq_true z⟩
  | bl b => exact ⟨_, .bl b, by cases b <;> decide⟩
  | _ => cases t
section
variable {P : Program} {w : World} {K : PySem.W.Frag} {mg : Str → Option Value} {base : Heap}
theorem scOdd : FnScope ["_law_well_here"] ["_law_well_here"] (defScope sOdd) := ⟨rfl, rfl, rfl, by decide +kernel, rfl, by decide +kernel, by decide +kernel⟩
theorem ok_odd (D : Def K mg "_law_odd" sOdd ["_law_well_here"]) (c1 : Cal P w K mg base "_law_pick" 2 ["_law_well_here", "_law_some"] spPick) : Cal P w K mg base "_law_odd" 3 ["_law_well_here"] spOdd := by
  refine D.ok scOdd (fun vs H Q E h => ?_) (fun f cdv A out s H vs Q E hr h => ?_)
  · obtain ⟨a, rfl, _⟩ := h; rfl
  obtain ⟨a, rfl, hw, q⟩ := h
  have main : ∀ (e : Expr) (t : TE), litB e = true → t = tCall spPick [] E0 (tCons (tVar 0) (tCons (tLit (.tuple (litList e))) tNil)) → t (start ["_law_well_here"] [.ref a]) H Q := by
    rintro e t hb rfl
    obtain ⟨_, ⟨ha, ha2⟩, h0, h1⟩ := lit_eq hb
    walk_at "rd"
    refine ⟨.ref a, rfl, a, hw.some, fun v H1 s1 dv => ?_⟩
    obtain ⟨p, xs, rfl, np, hp, hx⟩ := da_tup dv
    have l := hx.len
    refine ⟨a, p, xs, rfl, hw.to s1, np, hp, fun z => by rw [z] at l; simp at l; omega, by omega, fun i x H2 hi k2 w2 => ?_⟩
    obtain ⟨d, e1, e2⟩ := hx.get hi
    exact q x d H2 ((Kp.of s1).trans k2) w2 (e2.kp k2) (sm_of (List.all_eq_true.mp ha d (List.mem_of_getElem? e1))) (ls_of (List.all_eq_true.mp ha2 d (List.mem_of_getElem? e1)))
  have hb : litB (match defBody sOdd with | [.Return (some (.Call _ [_, e] _ _)) _] => e | _ => .Constant .none 0 ⟨0, 0, 0, 0⟩) = true := by decide +kernel
  exact ⟨_, pss_one (ps_ret (pe_cal c1 hr (by decide) (by rfl) (pa_cons (pv 0) (pa_cons (pe_lit _ (lit_eq hb).1) pa_nil)))), main _ _ hb rfl⟩
theorem scBent : FnScope ["_law_well_here", "_law_thing", "_law_spot", "_law_branch"] ["_law_well_here", "_law_thing"] (defScope sBent) := ⟨rfl, rfl, rfl, by decide +kernel, rfl, by decide +kernel, by decide +kernel⟩
theorem isT_dict {d : PyData} : isTupD d = true → ∃ ds, d = .tuple ds := fun h => by
  cases d <;> first | exact ⟨_, rfl⟩ | cases h
theorem bent_step {N : Nat} (D : Def K mg "_law_bent" sBent ["_law_well_here", "_law_thing"]) (nb : Nb mg) (c1 : Cal P w K mg base "_law_draw" 1 ["_law_well_here", "_law_few"] spDraw)
    (c2 : Cal P w K mg base "_law_odd" 3 ["_law_well_here"] spOdd) (c3 : Cal P w K mg base "_law_bent" (N + 3) ["_law_well_here", "_law_thing"] (spBent N)) : Cal P w K mg base "_law_bent" (N + 4) ["_law_well_here", "_law_thing"] (spBent (N + 1)) := by
  refine D.ok scBent (fun vs H Q E h => ?_) (fun f cdv A out s H vs Q E hr h => ?_)
  · obtain ⟨a, v, d, n, m, wt, rfl, _⟩ := h; rfl
  obtain ⟨a, v, d, n, m, wt, rfl, hw, hd, hs, hls, hw1, hN, m0, m1, q⟩ := h
  have hbb : 2 * wt + 16 ≤ bb (N + 1) wt := by unfold bb; rw [Nat.add_mul]; omega
  have hbs : 2 * wt + bb N wt ≤ bb (N + 1) wt := by unfold bb; rw [Nat.add_mul (N + 1) 1]; omega
  have b12 : B1 ≤ B2 := by decide
  refine ⟨_, Evl.pss_cut (ps_if (PW.pt (pw_and (pt_val (pe_callB (id := "isinstance") (r := rIsi K) call_isi (by rfl) nb.isi (by decide +kernel) (pa_cons (pv 1) (pa_cons (pe_bltn (v := .ty "tuple") (by rfl) nb.tup (by decide +kernel) rfl) pa_nil))))
        (pw_and (pt_cmpR (op_neT0 hr.units) (pv 1) (pe_tup pa_nil) (nomark _)) (pw_and1 (pt_cmpR op_gt (pe_cal c1 hr (by omega) (by rfl) (pa_cons (pv 0) (pa_cons pe_int pa_nil))) pe_int (nomark _))))))
      (pss_cons (ps_set (i := 2) scBent.nd rfl (Or.inl rfl) (pe_cal c1 hr (by omega) (by rfl) (pa_cons (pv 0) (pa_cons (pe_callB (id := "len") call_len_seq (by rfl) nb.len PySem.boot_len (pa_cons (pv 1) pa_nil)) pa_nil))))
        (pss_one (ps_ret (pe_op op_catA (pe_op op_catA (pe_slice sl_tupA (pv 1) po_none (po_some (pv 2)))
          (pe_tup (pa_cons (pe_cal c3 hr (by omega) (by rfl) (pa_cons (pv 0) (pa_cons (pe_ix ix_tup (pv 1) (pv 2) (fun _ _ => rfl)) pa_nil))) pa_nil)))
          (pe_slice sl_tupA (pv 1) (po_some (pe_op op_add (pv 2) pe_int)) po_none))))) pss_nil)
    (pss_cons (ps_set (i := 3) scBent.nd rfl (Or.inl rfl) (pe_cal c1 hr (by omega) (by rfl) (pa_cons (pv 0) (pa_cons pe_int pa_nil))))
    (pss_cons (ps_if (PW.pt (pw_and (pt_val (pe_callB (id := "isinstance") (r := rIsi K) call_isi (by rfl) nb.isi (by decide +kernel) (pa_cons (pv 1) (pa_cons (pe_bltn (v := .ty "tuple") (by rfl) nb.tup (by decide +kernel) rfl) pa_nil))))
        (pw_and1 (pt_cmpR op_lt (pv 3) pe_int (nomark _)))))
      (pss_one (ps_ret (pe_ix ix_tup (pe_tup
          (pa_cons (pe_callTy (T := "list") call_list_of (by rfl) nb.lst (by decide +kernel) (pa_cons (pv 1) pa_nil))
          (pa_cons (pe_slice sl_tupA (pv 1) po_none (po_some (pe_un un_neg pe_int)))
          (pa_cons (pe_op op_catA (pv 1) (pe_slice sl_tupA (pv 1) (po_some (pe_un un_neg pe_int)) po_none))
          (pa_cons (pe_revT (pv 1))
          (pa_cons (pe_slice sl_tupA (pv 1) (po_some pe_int) po_none)
          (pa_cons (pe_op op_catA (pe_slice sl_tupA (pv 1) po_none (po_some pe_int)) (pv 1)) pa_nil))))))) (pv 3) (fun _ _ => rfl)))) pss_nil)
    (pss_cons (ps_if (PW.pt (pw_and (pt_val (pe_callB (id := "isinstance") (r := rIsi K) call_isi (by rfl) nb.isi (by decide +kernel) (pa_cons (pv 1) (pa_cons (pe_bltn (v := .ty "int") (by rfl) nb.int (by decide +kernel) rfl) pa_nil))))
        (pw_and1 (pt_cmpR op_lt (pv 3) pe_int (nomark _)))))
      (pss_one (ps_ret (pe_ix ix_tup (pe_tup (pa_cons (pe_op op_addNl (pv 1) pe_int) (pa_cons (pe_op op_subNr pe_int (pv 1)) (pa_cons (pe_op op_mulNr pe_int (pv 1)) (pa_cons (pe_op op_subNl (pv 1) pe_int)
        (pa_cons (pe_cmpR op_eqNl (pv 1) pe_int (nomark _)) pa_nil)))))) (pv 3) (fun _ _ => rfl)))) pss_nil)
    (pss_one (ps_ret (pe_cal c2 hr (by omega) (by rfl) (pa_cons (pv 0) pa_nil))))))), ?_⟩
  walk_at "rd"
  refine ⟨fun σ' H' => σ' = [some (.ref a), some v, none, none] ∧ Kp a H H' ∧ We a H', ⟨v, rfl, isi hd (isi_tup d) ⟨isTupD d, rfl, ?_⟩⟩, ?_⟩
  · -- the first question
    cases ht : isTupD d with
    | false => exact iteF (iteF ⟨rfl, Kp.refl a H, hw⟩)
    | true =>
      obtain ⟨ds, rfl⟩ := isT_dict ht
      obtain ⟨p, xs, rfl, np, hp, hx⟩ := da_tup hd
      refine iteT ⟨.ref p, rfl, sz (by decide), fun t nt => ?_⟩
      have s1 := same_new (o := .tup []) nt
      refine ⟨p, t, xs, [], rfl, rfl, SqT.of (s1 _ _ hp), SqT.of upd_same, rfl, _, rfl, ?_⟩
      rw [if_pos rfl, empty_iff hx]
      cases hds : ds.isEmpty with
      | true => exact iteF (iteF ⟨rfl, Kp.of s1, hw.to s1⟩)
      | false =>
        refine iteT ⟨.ref a, rfl, a, _, rfl, hw.to s1, by decide, by decide, fun r H1 r0 r1 k1 w1 => ?_⟩
        have k1 := (Kp.of s1).trans k1
        refine ⟨r, 0, rfl, rfl, _, rfl, ?_⟩
        refine ite2 (fun c => ?_) (fun c => ⟨rfl, k1, w1⟩)
        have l0 : 0 < ds.length := by cases ds with
          | nil => cases hds
          | cons _ _ => simp
        have lm := hs.len
        have lx := hx.len
        refine ⟨.ref a, rfl, .ref p, rfl, p, xs, rfl, .inr (SqT.of (k1 _ _ np hp)), a, _, rfl, w1, by omega, by omega, fun i H2 i0 i1 k2 w2 => ?_⟩
        obtain ⟨j, rfl⟩ := Int.eq_ofNat_of_zero_le i0
        have hj : j < ds.length := by omega
        have k2 := k1.trans k2
        refine ⟨.ref p, rfl, .int j, rfl, (j : Int), rfl, ?_⟩
        refine sl_da w2.some (hd.kp k2) fun v1 H3 s3 d1 => ?_
        have k3 := k2.trans (Kp.of s3)
        refine ⟨.ref a, rfl, .ref p, rfl, .int j, rfl, ?_⟩
        refine ix_da (hd.kp k3) i0 (by omega) fun x dx hm dxx => ?_
        refine ⟨a, x, dx, n - 1, m, wt, rfl, w2.to s3, dxx, hs.mem hm, hls.mem hm, hw1, by have := hs.dep1; omega, m0, m1, fun v2 d2 H4 k4 w4 e2 t2 l2 => ?_⟩
        have k4' := k3.trans k4
        refine ⟨sz (by simp), fun pH5 nH5 => ?_⟩
        obtain ⟨s5, d3⟩ := newT w4.some (.cons e2 .nil) nH5
        generalize upd _ pH5 _ = H5 at s5 d3 ⊢
        have k5 := k4'.trans (Kp.of s5)
        have lu := cut_upto ds j
        refine cat_da (w4.to s5).some ((d1.kp k4).same s5) d3 (by simp; omega) fun v4 H6 s6 d4 => ?_
        have k6 := k5.trans (Kp.of s6)
        refine ⟨.ref p, rfl, .int j, rfl, j, 1, rfl, rfl, (j : Int) + 1, rfl, ?_⟩
        have ej : ((j : Int) + 1) = ((j + 1 : Nat) : Int) := by omega
        refine sl_da ((w4.to s5).to s6).some (hd.kp k6) fun v5 H7 s7 d5 => ?_
        have lf := cut_from ds (j + 1)
        rw [ej] at d5
        obtain ⟨c5, hc5⟩ : ∃ c, c = Tw.cutD ds (some ((j + 1 : Nat) : Int)) none := ⟨_, rfl⟩
        have l7 := nd1_two ds j
        rw [← hc5] at d5 lf l7
        refine cat_da (((w4.to s5).to s6).to s7).some (d4.same s7) d5 (by simp; omega) fun v6 H8 s8 d6 => ?_
        have n1 := hs.dep1
        refine q v6 _ H8 ((k6.trans (Kp.of s7)).trans (Kp.of s8)) ((((w4.to s5).to s6).to s7).to s8) d6 (?_) ?_
        refine sm_sub hs (by simp; omega) (by omega) (by omega) fun e he => ?_
        rcases List.mem_append.mp he with he | he
        · rcases List.mem_append.mp he with he | he
          · exact .inl (cut_mem he)
          · rw [List.mem_singleton.mp he]; exact .inr (t2.up (by omega) (Nat.le_refl _))
        · rw [hc5] at he; exact .inl (cut_mem he)
        · have l8 := hls.nd
          have l9 := l2.2
          refine ls_sub hls b12 (by rw [nd1_app, nd1_app, nd1, nd1]; omega) fun e he => ?_
          rcases List.mem_append.mp he with he | he
          · rcases List.mem_append.mp he with he | he
            · exact .inl (cut_mem he)
            · rw [List.mem_singleton.mp he]; exact .inr l2.1
          · rw [hc5] at he; exact .inl (cut_mem he)
  · -- the rest
    rintro σ' H1 ⟨rfl, k1, w1⟩
    have hd1 := hd.kp k1
    refine ⟨.ref a, rfl, a, _, rfl, w1, by decide, by decide, fun r H2 r0 r1 k2 w2 => ?_⟩
    have k2 := k1.trans k2
    have hd2 := hd.kp k2
    have odd : ∀ H3, Kp a H H3 → We a H3 → spOdd ([.ref a] ++ []) H3 Q E0 := fun H3 k3 w3 => ⟨a, rfl, w3, fun v' d' H4 k4 w4 e4 t4 u4 => q v' d' H4 (k3.trans k4) w4 e4 (t4.up (by omega) (by omega)) (u4.up b12 (by omega))⟩
    refine ⟨v, rfl, isi hd2 (isi_tup d) ⟨isTupD d, rfl, ?_⟩⟩
    cases ht : isTupD d with
    | true =>
      obtain ⟨ds, rfl⟩ := isT_dict ht
      refine iteT ⟨.int r, rfl, r, 6, rfl, rfl, _, rfl, ite2 (fun c => ?_) (fun c => ?_)⟩
      · have c := of_decide_eq_true c
        have lm := hs.len
        have n1 := hs.dep1
        obtain ⟨p, xs, rfl, np, hp, hx⟩ := da_tup hd2
        refine ⟨.ref p, rfl, p, xs, rfl, .inr (SqT.of hp), fun q0 n0 => ?_⟩
        obtain ⟨s3, d0⟩ := newL w2.some hx n0
        generalize upd _ q0 _ = H3 at s3 d0 ⊢
        have w3 := w2.to s3
        have k3 := k2.trans (Kp.of s3)
        refine ⟨.ref p, rfl, 1, rfl, -1, rfl, sl_da w3.some (hd.kp k3) fun v1 H4 s4 d1 => ?_⟩
        have w4 := w3.to s4
        have k4 := k3.trans (Kp.of s4)
        refine ⟨.ref p, rfl, .ref p, rfl, 1, rfl, -1, rfl, sl_da w4.some (hd.kp k4) fun v2a H5 s5 d2a => ?_⟩
        have w5 := w4.to s5
        have k5 := k4.trans (Kp.of s5)
        have l2 : (Tw.cutD ds (some (-1)) none).length ≤ 1 := by
          unfold Tw.cutD
          rw [List.length_take, List.length_drop]
          have e : HT.sIx ds.length 0 (some (-1)) = ((-1 : Int) + (ds.length : Int)).toNat := by unfold HT.sIx; rfl
          rw [e]
          omega
        refine cat_da w5.some (hd.kp k5) d2a (by omega) fun v2 H6 s6 d2 => ?_
        have w6 := w5.to s6
        have k6 := k5.trans (Kp.of s6)
        obtain ⟨r6, ys, er, nr, hr6, hy⟩ := da_tup (hd.kp k6)
        cases er
        refine ⟨.ref p, rfl, p, ys, rfl, SqT.of hr6, fun q3 n3 => ?_⟩
        obtain ⟨s7, d3⟩ := newT w6.some hy.rev n3
        generalize upd _ q3 _ = H7 at s7 d3 ⊢
        have w7 := w6.to s7
        have k7 := k6.trans (Kp.of s7)
        refine ⟨.ref p, rfl, 1, rfl, sl_da w7.some (hd.kp k7) fun v4 H8 s8 d4 => ?_⟩
        have w8 := w7.to s8
        have k8 := k7.trans (Kp.of s8)
        refine ⟨.ref p, rfl, 1, rfl, sl_da w8.some (hd.kp k8) fun v5a H9 s9 d5a => ?_⟩
        have w9 := w8.to s9
        have k9 := k8.trans (Kp.of s9)
        have l5 : (Tw.cutD ds none (some 1)).length ≤ 1 := by
          have := cut_upto ds 1
          rw [show ((1 : Nat) : Int) = 1 from rfl] at this
          omega
        refine ⟨.ref p, rfl, cat_da w9.some d5a (hd.kp k9) (by omega) fun v5 H10 s10 d5 => ?_⟩
        have w10 := w9.to s10
        have k10 := k9.trans (Kp.of s10)
        have z9 := s9.trans s10
        have z8 := s8.trans z9
        have z7 := s7.trans z8
        have z6 := s6.trans z7
        have z5 := s5.trans z6
        have z4 := s4.trans z5
        refine ⟨sz (by simp), fun pH14 nH14 => ?_⟩
        obtain ⟨s14, dd⟩ := newT w10.some (.cons (d0.same z4) (.cons (d1.same z5) (.cons (d2.same z7) (.cons (d3.same z8) (.cons (d4.same z9) (.cons d5 .nil)))))) nH14
        generalize upd _ pH14 _ = H14 at s14 dd ⊢
        refine ⟨.int r, rfl, ix_da dd r0 (by simp; omega) fun x dx hm dxx => ?_⟩
        refine (fun z => q x dx H14 (k10.trans (Kp.of s14)) (w10.to s14) dxx z.1 z.2 : (Sm (n + 5) (m + 1) dx ∧ Ls B2 (bb (N + 1) wt) dx) → _) ?_
        have cut1 := cut_le ds none (some (-1))
        have cut2 := cut_le ds (some 1) none
        have n1 := hls.nd
        have n2 := nd1_cutD ds none (some (-1))
        have n3 := nd1_cutD ds (some (-1)) none
        have n4 := nd1_cutD ds (some 1) none
        have n5 := nd1_cutD ds none (some 1)
        simp only [List.mem_cons, List.not_mem_nil, or_false] at hm
        rcases hm with rfl | rfl | rfl | rfl | rfl | rfl
        · exact ⟨sm_subL hs (by omega) (by omega) (by omega) fun e he => .inl he, ls_subL hls b12 (by omega) fun e he => .inl he⟩
        · exact ⟨sm_sub hs (by omega) (by omega) (by omega) fun e he => .inl (cut_mem he), ls_sub hls b12 (by omega) fun e he => .inl (cut_mem he)⟩
        · exact ⟨sm_sub hs (by simp; omega) (by omega) (by omega) fun e he => (List.mem_append.mp he).elim .inl fun z => .inl (cut_mem z), ls_sub hls b12 (by rw [nd1_app]; omega) fun e he => (List.mem_append.mp he).elim .inl fun z => .inl (cut_mem z)⟩
        · exact ⟨sm_sub hs (by simp; omega) (by omega) (by omega) fun e he => .inl (List.mem_reverse.mp he), ls_sub hls b12 (by rw [nd1_rev]; omega) fun e he => .inl (List.mem_reverse.mp he)⟩
        · exact ⟨sm_sub hs (by omega) (by omega) (by omega) fun e he => .inl (cut_mem he), ls_sub hls b12 (by omega) fun e he => .inl (cut_mem he)⟩
        · exact ⟨sm_sub hs (by simp; omega) (by omega) (by omega) fun e he => (List.mem_append.mp he).elim (fun z => .inl (cut_mem z)) .inl, ls_sub hls b12 (by rw [nd1_app]; omega) fun e he => (List.mem_append.mp he).elim (fun z => .inl (cut_mem z)) .inl⟩
      · refine ⟨v, rfl, isi hd2 (isi_int _) ⟨false, rfl, iteF (iteF ⟨.ref a, rfl, odd H2 k2 w2⟩)⟩⟩
    | false =>
      refine iteF (iteF ⟨v, rfl, isi hd2 (isi_int d) ⟨isIntD d, rfl, ?_⟩⟩)
      cases hi : isIntD d with
      | false => exact iteF (iteF ⟨.ref a, rfl, odd H2 k2 w2⟩)
      | true =>
        refine iteT ⟨.int r, rfl, r, 5, rfl, rfl, _, rfl, ite2 (fun c => ?_) (fun c => ⟨.ref a, rfl, odd H2 k2 w2⟩)⟩
        have c := of_decide_eq_true c
        obtain ⟨i, hn, hi2⟩ := nu_ls hd2 hi hls
        refine ⟨v, rfl, i, 1, hn, rfl, v, rfl, 0, i, rfl, hn, v, rfl, 2, i, rfl, ⟨by decide, by decide⟩, hn, v, rfl, i, 2, hn, rfl, v, rfl, i, 1, hn, rfl, ?_⟩
        refine ⟨sz (by simp), fun pH4 nH4 => ?_⟩
        obtain ⟨s4, dd⟩ := newT w2.some (.cons (.int _) (.cons (.int _) (.cons (.int _) (.cons (.int _) (.cons (.bl _) .nil))))) nH4
        generalize upd _ pH4 _ = H4 at s4 dd ⊢
        refine ⟨.int r, rfl, ix_da dd r0 (by simp; omega) fun x dx hm dxx => ?_⟩
        refine (fun z => q x dx H4 (k2.trans (Kp.of s4)) (w2.to s4) dxx z.1 z.2 : (Sm (n + 5) (m + 1) dx ∧ Ls B2 (bb (N + 1) wt) dx) → _) ?_
        simp only [List.mem_cons, List.not_mem_nil, or_false] at hm
        rcases hm with rfl | rfl | rfl | rfl | rfl
        · exact ⟨sm_int _ _ _, ls_int (by have := big2; unfold B1 at hi2; unfold B2; omega) (by omega)⟩
        · exact ⟨sm_int _ _ _, ls_int (by have := big2; unfold B1 at hi2; unfold B2; omega) (by omega)⟩
        · exact ⟨sm_int _ _ _, ls_int (by have := big2; unfold B1 at hi2; unfold B2; omega) (by omega)⟩
        · exact ⟨sm_int _ _ _, ls_int (by have := big2; unfold B1 at hi2; unfold B2; omega) (by omega)⟩
        · exact ⟨sm_bl _ _ _, ls_bl (by omega)⟩
theorem bent_all (D : Def K mg "_law_bent" sBent ["_law_well_here", "_law_thing"]) (nb : Nb mg) (c1 : Cal P w K mg base "_law_draw" 1 ["_law_well_here", "_law_few"] spDraw)
    (c2 : Cal P w K mg base "_law_odd" 3 ["_law_well_here"] spOdd) : ∀ N : Nat, Cal P w K mg base "_law_bent" (N + 3) ["_law_well_here", "_law_thing"] (spBent N)
  | 0 => by
    have no : ∀ vs H Q E, ¬ spBent 0 vs H Q E := fun vs H Q E h => by
      obtain ⟨a, v, d, n, m, wt, _, _, _, _, _, _, h1, _⟩ := h
      omega
    obtain ⟨f, fd, F, m, b⟩ := D
    exact ⟨f, fd, ⟨fun vs H Q E h => absurd h (no vs H Q E), fun A out s H g us vs Q E _ _ _ _ h => absurd h (no vs H Q E)⟩, m, F.kp, b, fdAt F⟩
  | N + 1 => bent_step D nb c1 c2 (bent_all D nb c1 c2 N)

end
end K01

set_option Elab.async false
set_option linter.all false
set_option maxRecDepth 100000
set_option maxHeartbeats 8000000
local macro_rules | `(tactic| walk_at "rd") => `(tactic| dsimp only [Evl.tCut, L2.tSeq, L2.tNext, L2.tRet, L2.tRetN, L2.tAsg, L2.gName, L2.tIfS, L2.tDrop, L2.tCons, L2.tNil, L2.tC, L2.tVar, L2.tCB, L2.tAndV, L2.tOrV, L2.tNotV, L2.tB, L2.tTest, L2.tOp, L2.tUn, L2.tNot, L2.tAnd, L2.tOr, L2.tIf, L2.tCall, L2.tTup, L2.tLst, L2.tNotT, L2.tYes, L2.gTup, L2.gCons, L2.gNil, L2.gSub, L2.tBM0, L2.tBM, L2.tWhile, L2.tFor, L2.iRng1, L2.iRng2, L2.tAugS, Tw.iEnumT, L2.tCKw, L2.tAug, L2.ipI, RT.iRevA, L2.tPar, L2.tPar3, L2.tSl, L2.tNoPart, L2.tPart, Tw.tRevT])
namespace K01
open PySem PySem.Spec PyProof.Rows L2 Tw
theorem _root_.PySem.Reads.keep_le {h : Heap} {p : Addr} {d : PyData} {as : List Addr} {n : Nat} {bs : List Addr} (r : Reads h (.ref p) d as) (hb : ReadAtMost h n bs) (hn : n ≤ d.depth) : ReadAtMost h d.depth (p :: bs) := ReadAtMost.cons r hn hb
section
variable {X : Cx} {pins : List (Addr × Obj)} {σ : L2.St} {H : Hp} {s : Shared} {a : Addr}
theorem dct_at {p : Addr} (I : L2.Inv X pins σ H s) (h : H p = some (.dK [])) : ∃ (ob : Obj) (es : Array DictEntry) (ep : Nat), s.heap.get? p = some ob ∧ ob.cls = .type "dict" ∧ ob.data = .dict es ep ∧ es.toList = [] ∧ (p == sysModules) = false := by
  obtain ⟨_, hsm, vs, kv, ob, es, ep, e1, e2, e3, _, e5, _⟩ := dk_of I.hok h
  cases kv
  refine ⟨ob, es, ep, e1, e2.1, e3, ?_, hsm⟩
  cases hz : es.toList with
  | nil => rfl
  | cons x r => rw [hz] at e5; cases e5
mutual
theorem rk_da (I : L2.Inv X pins σ H s) : ∀ {v : V} {d : PyData} {u : Value}, Da a H v d → L2.RelV v u → PyData.showable d = true → d.shown.length ≤ sizeLine →
    (∃ as, Reads s.heap u d as) ∧ ∃ bs, ReadAtMost s.heap d.depth bs ∧ ReprK X.prog X.w bs s.heap d.depth u d.shown
  | _, _, _, .non, r, _, _ => by cases r; exact ⟨⟨_, Reads.none⟩, [], (fun _ z => nomatch z), .of_is ReprIs.none _ _ _⟩
  | _, _, _, .bl b, r, _, _ => by cases r; exact ⟨⟨_, Reads.bool b⟩, [], (fun _ z => nomatch z), .of_is (ReprIs.bool b) _ _ _⟩
  | _, _, _, .int i, r, g, _ => by
    obtain ⟨t, rfl⟩ := r
    rw [PyData.showable] at g
    exact ⟨⟨_, Reads.int i t⟩, [], (fun _ z => nomatch z), .of_is (ReprIs.int t (of_decide_eq_true g)) _ _ _⟩
  | _, _, _, .str x, r, _, hz => by
    obtain ⟨t, rfl⟩ := r
    exact ⟨⟨_, Reads.str x t⟩, [], (fun _ z => nomatch z), .of_is (ReprIs.str x t hz) _ _ _⟩
  | _, _, _, .lst (p := p) (ds := ds) n h t, r, g, hz => by
    cases r
    rw [PyData.showable] at g
    rw [PyData.shown] at hz
    obtain ⟨its, rv, ⟨o, m, ho, hc, _, hd⟩, _⟩ := I.list (SqL.of h)
    obtain ⟨⟨as, ra⟩, bs, hb, hk⟩ := rk_das I t rv g fun y hy => Nat.le_trans (listText_mem_le hy) hz
    have rd := Reads.list ho hc hd ra
    have hn := not_mem_of_deeper rd (by rw [PyData.depth]; omega) hb
    refine ⟨⟨_, rd⟩, p :: bs, rd.keep_le hb (by rw [PyData.depth]; omega), ?_⟩
    rw [PyData.depth, PyData.shown]
    cases its with
    | nil =>
      cases ra
      rw [PyData.shownAll, listText_nil]
      exact ReprK.listEmpty ho hc hd
    | cons x l => exact ReprK.list ho hc hd hn (by simpa using hk.length_eq) fun i y e => hk.item i y (by simpa using e)
  | _, _, _, .tup (p := p) (ds := ds) n h t, r, g, hz => by
    cases r
    rw [PyData.showable] at g
    rw [PyData.shown] at hz
    obtain ⟨its, rv, ⟨o, ho, hc, m, hd⟩, _⟩ := I.tuple (SqT.of h)
    obtain ⟨⟨as, ra⟩, bs, hb, hk⟩ := rk_das I t rv g fun y hy => Nat.le_trans (tupleText_mem_le hy) hz
    have rd := Reads.tuple ho hc hd ra
    have hn := not_mem_of_deeper rd (by rw [PyData.depth]; omega) hb
    refine ⟨⟨_, rd⟩, p :: bs, rd.keep_le hb (by rw [PyData.depth]; omega), ?_⟩
    rw [PyData.depth, PyData.shown]
    exact ReprK.tuple ho hc hd hn hk
  | _, _, _, .dct (p := p) n h, r, _, _ => by
    cases r
    obtain ⟨ob, es, ep, e1, e2, e3, e6, hsm⟩ := dct_at I h
    have rd : Reads s.heap (.ref p) (.dict []) _ := Reads.dict (kvs := []) (as := []) (bs := []) e1 e2 e3 (by rw [e6]; exact .nil) (by rw [e6]; exact .nil)
    refine ⟨⟨_, rd⟩, [p], rd.keep_le (n := 0) (bs := []) (fun _ z => nomatch z) (Nat.zero_le _), ?_⟩
    exact ReprK.dict e1 e2 e3 hsm (fun z => nomatch z) (by rw [e6]; exact .nil)
theorem rk_das (I : L2.Inv X pins σ H s) : ∀ {vs : List V} {ds : List PyData} {us : List Value}, DaAll a H vs ds → Vals vs us → PyData.showableAll ds = true → (∀ t ∈ PyData.shownAll ds, t.length ≤ sizeLine) →
    (∃ as, ReadsAll s.heap us ds as) ∧ ∃ bs, ReadAtMost s.heap (PyData.depthAll ds) bs ∧ ReprAllK X.prog X.w bs s.heap (PyData.depthAll ds) us (PyData.shownAll ds)
  | _, _, _, .nil, r, _, _ => by cases r; exact ⟨⟨_, .nil⟩, [], (fun _ z => nomatch z), .nil⟩
  | _, _, _, .cons h t, r, g, hz => by
    cases r with
    | cons r1 r2 =>
      rw [PyData.showableAll, Bool.and_eq_true] at g
      rw [PyData.shownAll] at hz
      obtain ⟨⟨as, q1⟩, b1, m1, k1⟩ := rk_da I h r1 g.1 (hz _ (by simp))
      obtain ⟨⟨cs, q2⟩, b2, m2, k2⟩ := rk_das I t r2 g.2 fun y hy => hz y (by simp [hy])
      rw [PyData.depthAll, PyData.shownAll]
      exact ⟨⟨_, ReadsAll.cons q1 q2⟩, b1 ++ b2, (m1.mono (Nat.le_max_left _ _)).append (m2.mono (Nat.le_max_right _ _)),
        .cons ((k1.more fun b z => List.mem_append_left _ z).level_le (Nat.le_max_left _ _)) (k2.more_le (fun b z => List.mem_append_right _ z) (Nat.le_max_right _ _))⟩
end
theorem repr_da (I : L2.Inv X pins σ H s) {v : V} {d : PyData} {u : Value} {Q : Value → Shared → Prop} {A : Around} {E : Value → Shared → Prop} (h : Da a H v d) (r : L2.RelV v u) (g : PyData.showable d = true) (hz : d.shown.length ≤ sizeLine) (hq : A.guards = some []) (hu : A.units + (d.depth + 1) < cLine)
    (q : ∀ h' t k, (∀ b o, s.heap.get? b = some o → h'.get? b = some o) → Q (.str d.shown t) { s with heap := h', toks := k }) : wpAny (model X.prog X.w) A (call (.builtin "repr") [u]) Q E s := by
  have hu2 : A.in1.units + d.depth < cLine := by show A.units + 1 + d.depth < cLine; omega
  cases h with
  | non => cases r; exact PySem.P.repr_of_none (q s.heap _ _ fun _ _ e => e)
  | bl b => cases r; exact PySem.P.repr_of_bool (by cases b <;> exact q s.heap _ _ fun _ _ e => e)
  | int i => obtain ⟨t, rfl⟩ := r; exact PySem.P.repr_of_int (by rw [PyData.showable] at g; exact of_decide_eq_true g) (q s.heap _ _ fun _ _ e => e)
  | str x => obtain ⟨t, rfl⟩ := r; exact PySem.P.repr_of_str (q s.heap _ _ fun _ _ e => e) hz
  | @lst p xs ds n h t =>
    cases r
    rw [PyData.showable] at g
    rw [PyData.shown] at hz q
    rw [PyData.depth] at hu2
    obtain ⟨its, rv, ⟨o, m, ho, hc, _, hd⟩, _⟩ := I.list (SqL.of h)
    obtain ⟨⟨as, ra⟩, bs, hb, hk⟩ := rk_das I t rv g fun y hy => Nat.le_trans (listText_mem_le hy) hz
    have hn := not_mem_of_deeper (Reads.list ho hc hd ra) (by rw [PyData.depth]; omega) hb
    have ty : s.TypeIs (.ref p) "list" := ⟨o, ho, hc⟩
    refine call_repr_slot (by omega) ty F.slot_list_repr.toG ?_
    cases its with
    | nil =>
      cases ra
      rw [PyData.shownAll, listText_nil] at q
      exact call_list_repr_empty ty ho hd ⟨_, _, rfl, q s.heap _ _ fun _ _ e => e⟩
    | cons x l => exact call_list_reprK ho hc hd hn (by simpa using hk.length_eq) (fun i y e => hk.item i y (by simpa using e)) hq (fun b _ => Clear.nil b) hu2 (fun _ _ e => e) (fun h' w k z => ⟨_, _, rfl, q h' w k z⟩) hz
  | @tup p xs ds n h t =>
    cases r
    rw [PyData.showable] at g
    rw [PyData.shown] at hz q
    rw [PyData.depth] at hu2
    obtain ⟨its, rv, ⟨o, ho, hc, m, hd⟩, _⟩ := I.tuple (SqT.of h)
    obtain ⟨⟨as, ra⟩, bs, hb, hk⟩ := rk_das I t rv g fun y hy => Nat.le_trans (tupleText_mem_le hy) hz
    have hn := not_mem_of_deeper (Reads.tuple ho hc hd ra) (by rw [PyData.depth]; omega) hb
    exact call_repr_slot (by omega) ⟨o, ho, hc⟩ F.slot_tuple_repr (call_tuple_reprK ho hc hd hn hk hq (fun b _ => Clear.nil b) hu2 (fun _ _ e => e) (fun h' w k z => ⟨_, _, rfl, q h' w k z⟩) hz)
  | @dct p n h =>
    cases r
    obtain ⟨ob, es, ep, e1, e2, e3, e6, hsm⟩ := dct_at I h
    exact call_repr_slot (by omega) ⟨ob, e1, e2⟩ F.slot_dict_repr (call_dict_reprK (as := []) (d := 0) (ps := []) e1 e2 e3 hsm (fun z => nomatch z) (by rw [e6]; exact .nil) hq (fun b _ => Clear.nil b) hu2 (fun _ _ e => e) (fun h' w k z => ⟨_, _, rfl, q h' w k z⟩) hz)
end
/-- repr of any datum -/
def rShowD : List V → Hp → VK → Prop := fun xs H Q => ∃ (a : Addr) (v : V) (d : PyData) (w : Nat), xs = [v] ∧ Da a H v d ∧ Ls B2 w d ∧ w ≤ 100000 ∧ dep d ≤ 40 ∧ Q (.str d.shown) H
theorem call_showD {X : Cx} (hq : Qt X.A) (hu : X.A.units + 70 < cLine) : CallR X (.builtin "repr") rShowD := by
  intro pins s σ H xs us Q I r h
  obtain ⟨a, v, d, w, rfl, hd, hl, hw, hdep, q⟩ := h
  obtain ⟨u, rfl, rx⟩ := vals1 r
  have hdp := depth_dep hl.1
  exact repr_da I hd rx (lf_show hl.1).1 (shown_fit hl hw) hq (by omega) fun h' t k keep => ⟨.str d.shown, H, I.kept keep, ⟨_, rfl⟩, q⟩
/-! spoilt things -/
/-- the datum that a law hands in -/
def Th (d : PyData) : Prop := dep d ≤ 20 ∧ Ls B2 5000 d
def spSpoilt : Sp := fun vs H Q _ => ∃ a v d, vs = [.ref a, v] ∧ We a H ∧ Da a H v d ∧ Sm 6 10 d ∧ Ls B1 60 d ∧ ∀ v' d' H', Kp a H H' → We a H' → Da a H' v' d' → Th d' → Q v' H'
section
variable {P : Program} {w : World} {K : PySem.W.Frag} {mg : Str → Option Value} {base : Heap}
theorem scSpoilt : FnScope ["_law_well_here", "_law_thing", "_law_branch"] ["_law_well_here", "_law_thing"] (defScope sSpoilt) := ⟨rfl, rfl, rfl, by decide +kernel, rfl, by decide +kernel, by decide +kernel⟩
theorem ok_spoilt (D : Def K mg "_law_spoilt" sSpoilt ["_law_well_here", "_law_thing"]) (c1 : Cal P w K mg base "_law_draw" 1 ["_law_well_here", "_law_few"] spDraw) (c2 : Cal P w K mg base "_law_odd" 3 ["_law_well_here"] spOdd)
    (c3 : Cal P w K mg base "_law_bent" 12 ["_law_well_here", "_law_thing"] (spBent 9)) : Cal P w K mg base "_law_spoilt" 13 ["_law_well_here", "_law_thing"] spSpoilt := by
  refine D.ok scSpoilt (fun vs H Q E h => ?_) (fun f cdv A out s H vs Q E hr h => ?_)
  · obtain ⟨a, v, d, rfl, _⟩ := h; rfl
  obtain ⟨a, v, d, rfl, hw, hd, hs, hl, q⟩ := h
  refine ⟨_, pss_cons (ps_set (i := 2) scSpoilt.nd rfl (Or.inl rfl) (pe_cal c1 hr (by decide) (by rfl) (pa_cons (pv 0) (pa_cons pe_int pa_nil))))
    (pss_cons (ps_if (pt_cmpR op_lt (pv 2) pe_int (nomark _)) (pss_one (ps_ret (pv 1))) pss_nil)
    (pss_one (ps_ret (pe_ifExp (pt_cmpR op_lt (pv 2) pe_int (nomark _)) (pe_cal c3 hr (by decide) (by rfl) (pa_cons (pv 0) (pa_cons (pv 1) pa_nil))) (pe_cal c2 hr (by decide) (by rfl) (pa_cons (pv 0) pa_nil)))))), ?_⟩
  have b12 : B1 ≤ B2 := by decide
  walk_at "rd"
  refine ⟨.ref a, rfl, a, _, rfl, hw, by decide, by decide, fun r H1 r0 r1 k1 w1 => ?_⟩
  have hd1 := hd.kp k1
  refine ⟨.int r, rfl, _, _, rfl, rfl, _, rfl, ite2 (fun c => ?_) (fun c => ?_)⟩
  · exact ⟨v, rfl, q v d H1 k1 w1 hd1 ⟨Nat.le_trans hs.1 (by decide), hl.up b12 (by decide)⟩⟩
  · refine ⟨.int r, rfl, _, _, rfl, rfl, _, rfl, ite2 (fun c => ?_) (fun c => ?_)⟩
    · refine ⟨.ref a, rfl, v, rfl, a, v, d, 6, 10, 60, rfl, w1, hd1, hs, hl, by decide, by decide, by decide, by decide, fun v' d' H2 k2 w2 e2 t2 u2 => ?_⟩
      exact q v' d' H2 (k1.trans k2) w2 e2 ⟨Nat.le_trans t2.1 (by decide), u2.up (Nat.le_refl _) (by decide)⟩
    · refine ⟨.ref a, rfl, a, rfl, w1, fun v' d' H2 k2 w2 e2 t2 u2 => ?_⟩
      exact q v' d' H2 (k1.trans k2) w2 e2 ⟨Nat.le_trans t2.1 (by decide), u2.up b12 (by decide)⟩
end
end K01

set_option Elab.async false
set_option linter.all false
set_option maxRecDepth 100000
set_option maxHeartbeats 8000000
local macro_rules | `(tactic| walk_at "rd") => `(tactic| dsimp only [Evl.tCut, L2.tSeq, L2.tNext, L2.tRet, L2.tRetN, L2.tAsg, L2.gName, L2.tIfS, L2.tDrop, L2.tCons, L2.tNil, L2.tC, L2.tVar, L2.tCB, L2.tAndV, L2.tOrV, L2.tNotV, L2.tB, L2.tTest, L2.tOp, L2.tUn, L2.tNot, L2.tAnd, L2.tOr, L2.tIf, L2.tCall, L2.tTup, L2.tLst, L2.tNotT, L2.tYes, L2.gTup, L2.gCons, L2.gNil, L2.gSub, L2.tBM0, L2.tBM, L2.tWhile, L2.tFor, L2.iRng1, L2.iRng2, L2.tAugS, Tw.iEnumT, L2.tCKw, L2.tAug, L2.ipI, RT.iRevA, L2.tPar, L2.tPar3, L2.tSl, L2.tNoPart, L2.tPart, Tw.tRevT, Tw.tMk, Tw.tGet])
namespace K01
open PySem PySem.Spec PyProof.Rows L2 Tw
/-! the error classes -/
/-- a class without an own __init__ -/
structure Xc0 (K : PySem.W.Frag) (mg : Str → Option Value) (cn : Str) (C : Addr) : Prop where
  gC : mg cn = some (.ref C)
  kC : PySem.W.keepIn K (.ref C) = true
  ex : PySem.W.excIn K C [.type "ValueError", .type "Exception", .type "BaseException", .type "object"] "ValueError.__new__" = true
def tb (n j : Nat) : Bool := j == n || (decide (18 < j) && decide (j < 22))
def tyn : List String := ["ValueError", "Exception", "LookupError", "TypeError", "ArithmeticError", "RuntimeError", "AttributeError"]
def tyv (c : Nat → Addr) (j : Nat) : Value := if j < 20 then .ref (c j) else .type (tyn.getD (j - 20) "")
structure Txt (K : PySem.W.Frag) (mg : Str → Option Value) (c : Nat → Addr) : Prop where
  t0 : ∃ fI, PySem.LowG.LowTxt K mg "InvalidFraction" "InvalidFraction.__init__" (c 0) fI
  t1 : ∃ fI, PySem.LowG.LowTxt K mg "InvalidRow" "InvalidRow.__init__" (c 1) fI
  t2 : ∃ fI, PySem.LowG.LowTxt K mg "InvalidNumber" "InvalidNumber.__init__" (c 2) fI
  t3 : ∃ fI, PySem.LowG.LowTxt K mg "InvalidForm" "InvalidForm.__init__" (c 3) fI
  t4 : ∃ fI, PySem.LowG.LowTxt K mg "InvalidIndex" "InvalidIndex.__init__" (c 4) fI
  t5 : ∃ fI, PySem.LowG.LowTxt K mg "InvalidCount" "InvalidCount.__init__" (c 5) fI
  t6 : ∃ fI, PySem.LowG.LowTxt K mg "InvalidRelation" "InvalidRelation.__init__" (c 6) fI
  t7 : ∃ fI, PySem.LowG.LowTxt K mg "InvalidLetter" "InvalidLetter.__init__" (c 7) fI
  t8 : ∃ fI, PySem.LowG.LowTxt K mg "InvalidPoly" "InvalidPoly.__init__" (c 8) fI
  t9 : ∃ fI, PySem.LowG.LowTxt K mg "InvalidPlace" "InvalidPlace.__init__" (c 9) fI
  t10 : ∃ fI, PySem.LowG.LowTxt K mg "InvalidCell" "InvalidCell.__init__" (c 10) fI
  t11 : ∃ fI, PySem.LowG.LowTxt K mg "InvalidPoint" "InvalidPoint.__init__" (c 11) fI
  t12 : ∃ fI, PySem.LowG.LowTxt K mg "InvalidSaying" "InvalidSaying.__init__" (c 12) fI
  t13 : ∃ fI, PySem.LowG.LowTxt K mg "TooMany" "TooMany.__init__" (c 13) fI
  t14 : ∃ fI, PySem.LowI.LowTxt K mg "InvalidRows" "InvalidRows.__init__" (c 14) fI
  t15 : ∃ fI, PySem.LowI.LowTxt K mg "InvalidPolys" "InvalidPolys.__init__" (c 15) fI
  t16 : ∃ fI, PySem.LowI.LowTxt K mg "InvalidLines" "InvalidLines.__init__" (c 16) fI
  t17 : ∃ fI, PySem.LowS.LowTxt K mg "BadText" "BadText.__init__" (c 17) fI
  t18 : Xc0 K mg "UnlikePlaces" (c 18)
  t19 : Xc0 K mg "LetterError" (c 19)
  x : ∀ i, i < 20 → XcC K (c i)
  k : ∀ i, i < 20 → ∀ j, j < 27 → PySem.W.kitOne K (.ref (c i)) (tyv c j) = some (tb i j)
def fld (n : Nat) : Str := if n < 14 then "given" else if n < 17 then "index" else "spot"
/-- the error of the class n, made with v, stands at e -/
def Er (c : Nat → Addr) (H : Hp) (e : Addr) (n : Nat) (v : V) : Prop := (n < 18 ∧ Xo H e (c n) [(fld n, v)]) ∨ ((n = 18 ∨ n = 19) ∧ Xn H e (c n))
theorem Er.same {c : Nat → Addr} {H H' : Hp} {e : Addr} {n : Nat} {v : V} (s : Same H H') (h : Er c H e n v) : Er c H' e n v := by
  rcases h with ⟨h1, h2⟩ | ⟨h1, h2⟩
  · exact .inl ⟨h1, h2.kp (a := e) s⟩
  · exact .inr ⟨h1, s _ _ h2⟩
theorem veq {i j : Int} (c : decide (V.int i = V.int j) = true) : i = j := by rw [dec_int] at c; simpa using c
theorem vne {i j : Int} (c : ¬ decide (V.int i = V.int j) = true) : i ≠ j := by rw [dec_int] at c; simpa using c
theorem dlt {p : Prop} [Decidable p] (c : ¬ decide p = true) : ¬ p := fun z => c (decide_eq_true z)
def spEr (c : Nat → Addr) (lo hi : Nat) : Sp := fun vs H Q _ => ∃ (n : Nat) (v : V), vs = [.int (n : Int), v] ∧ lo ≤ n ∧ n < hi ∧ ∀ e H', Same H H' → Er c H' e n v → Q (.ref e) H'
section
variable {P : Program} {w : World} {K : PySem.W.Frag} {mg : Str → Option Value} {base : Heap} {c : Nat → Addr}
theorem scLow : FnScope ["_law_spot", "_law_thing"] ["_law_spot", "_law_thing"] (defScope sLow) := ⟨rfl, rfl, rfl, by decide +kernel, rfl, by decide +kernel, by decide +kernel⟩
theorem ok_low (D : Def K mg "_law_low" sLow ["_law_spot", "_law_thing"]) (T : Txt K mg c) : Cal P w K mg base "_law_low" 2 ["_law_spot", "_law_thing"] (spEr c 0 9) := by
  refine D.ok scLow (fun vs H Q E h => ?_) (fun f cdv A out s H vs Q E hr h => ?_)
  · obtain ⟨n, v, rfl, _⟩ := h; rfl
  obtain ⟨n, v, rfl, n0, n1, q⟩ := h
  obtain ⟨f0, h0⟩ := T.t0
  obtain ⟨f1, h1⟩ := T.t1
  obtain ⟨f2, h2⟩ := T.t2
  obtain ⟨f3, h3⟩ := T.t3
  obtain ⟨f4, h4⟩ := T.t4
  obtain ⟨f5, h5⟩ := T.t5
  obtain ⟨f6, h6⟩ := T.t6
  obtain ⟨f7, h7⟩ := T.t7
  obtain ⟨f8, h8⟩ := T.t8
  refine ⟨_, (pss_cons (ps_if (pt_cmpR op_lt (pv 0) pe_int (nomark _)) (pss_one (ps_ret (pe_ifExp (pt_cmpR op_eq (pv 0) pe_int (nomark _)) (pe_mkG h0 hr (by decide) (by rfl) (pa_cons (pv 1) pa_nil)) (pe_ifExp (pt_cmpR op_eq (pv 0) pe_int (nomark _)) (pe_mkG h1 hr (by decide) (by rfl) (pa_cons (pv 1) pa_nil)) (pe_mkG h2 hr (by decide) (by rfl) (pa_cons (pv 1) pa_nil)))))) pss_nil)
    (pss_cons (ps_if (pt_cmpR op_lt (pv 0) pe_int (nomark _)) (pss_one (ps_ret (pe_ifExp (pt_cmpR op_eq (pv 0) pe_int (nomark _)) (pe_mkG h3 hr (by decide) (by rfl) (pa_cons (pv 1) pa_nil)) (pe_ifExp (pt_cmpR op_eq (pv 0) pe_int (nomark _)) (pe_mkG h4 hr (by decide) (by rfl) (pa_cons (pv 1) pa_nil)) (pe_mkG h5 hr (by decide) (by rfl) (pa_cons (pv 1) pa_nil)))))) pss_nil)
    (pss_one (ps_ret (pe_ifExp (pt_cmpR op_eq (pv 0) pe_int (nomark _)) (pe_mkG h6 hr (by decide) (by rfl) (pa_cons (pv 1) pa_nil)) (pe_ifExp (pt_cmpR op_eq (pv 0) pe_int (nomark _)) (pe_mkG h7 hr (by decide) (by rfl) (pa_cons (pv 1) pa_nil)) (pe_mkG h8 hr (by decide) (by rfl) (pa_cons (pv 1) pa_nil)))))))), ?_⟩
  walk_at "rd"
  refine ⟨.int n, rfl, _, _, rfl, rfl, _, rfl, ite2 (fun c => ?_) (fun c => ?_)⟩
  · have c := of_decide_eq_true c
    refine ⟨.int n, rfl, rfl, _, rfl, ite2 (fun c => ?_) (fun c => ?_)⟩
    · have c := veq c
      have hn : n = 0 := by omega
      subst hn
      exact ⟨v, rfl, v, rfl, fun e H2 s x => q e H2 s (.inl ⟨by decide, x⟩)⟩
    · have c := vne c
      refine ⟨.int n, rfl, rfl, _, rfl, ite2 (fun c => ?_) (fun c => ?_)⟩
      · have c := veq c
        have hn : n = 1 := by omega
        subst hn
        exact ⟨v, rfl, v, rfl, fun e H2 s x => q e H2 s (.inl ⟨by decide, x⟩)⟩
      · have c := vne c
        have hn : n = 2 := by omega
        subst hn
        exact ⟨v, rfl, v, rfl, fun e H2 s x => q e H2 s (.inl ⟨by decide, x⟩)⟩
  · have c := dlt c
    refine ⟨.int n, rfl, _, _, rfl, rfl, _, rfl, ite2 (fun c => ?_) (fun c => ?_)⟩
    · have c := of_decide_eq_true c
      refine ⟨.int n, rfl, rfl, _, rfl, ite2 (fun c => ?_) (fun c => ?_)⟩
      · have c := veq c
        have hn : n = 3 := by omega
        subst hn
        exact ⟨v, rfl, v, rfl, fun e H2 s x => q e H2 s (.inl ⟨by decide, x⟩)⟩
      · have c := vne c
        refine ⟨.int n, rfl, rfl, _, rfl, ite2 (fun c => ?_) (fun c => ?_)⟩
        · have c := veq c
          have hn : n = 4 := by omega
          subst hn
          exact ⟨v, rfl, v, rfl, fun e H2 s x => q e H2 s (.inl ⟨by decide, x⟩)⟩
        · have c := vne c
          have hn : n = 5 := by omega
          subst hn
          exact ⟨v, rfl, v, rfl, fun e H2 s x => q e H2 s (.inl ⟨by decide, x⟩)⟩
    · have c := dlt c
      refine ⟨.int n, rfl, rfl, _, rfl, ite2 (fun c => ?_) (fun c => ?_)⟩
      · have c := veq c
        have hn : n = 6 := by omega
        subst hn
        exact ⟨v, rfl, v, rfl, fun e H2 s x => q e H2 s (.inl ⟨by decide, x⟩)⟩
      · have c := vne c
        refine ⟨.int n, rfl, rfl, _, rfl, ite2 (fun c => ?_) (fun c => ?_)⟩
        · have c := veq c
          have hn : n = 7 := by omega
          subst hn
          exact ⟨v, rfl, v, rfl, fun e H2 s x => q e H2 s (.inl ⟨by decide, x⟩)⟩
        · have c := vne c
          have hn : n = 8 := by omega
          subst hn
          exact ⟨v, rfl, v, rfl, fun e H2 s x => q e H2 s (.inl ⟨by decide, x⟩)⟩
theorem scPlace : FnScope ["_law_spot", "_law_thing"] ["_law_spot", "_law_thing"] (defScope sPlace) := ⟨rfl, rfl, rfl, by decide +kernel, rfl, by decide +kernel, by decide +kernel⟩
theorem ok_place (D : Def K mg "_law_by_place" sPlace ["_law_spot", "_law_thing"]) (T : Txt K mg c) (cL : Cal P w K mg base "_law_low" 2 ["_law_spot", "_law_thing"] (spEr c 0 9)) : Cal P w K mg base "_law_by_place" 3 ["_law_spot", "_law_thing"] (spEr c 0 20) := by
  refine D.ok scPlace (fun vs H Q E h => ?_) (fun f cdv A out s H vs Q E hr h => ?_)
  · obtain ⟨n, v, rfl, _⟩ := h; rfl
  obtain ⟨n, v, rfl, n0, n1, q⟩ := h
  obtain ⟨f9, h9⟩ := T.t9
  obtain ⟨f10, h10⟩ := T.t10
  obtain ⟨f11, h11⟩ := T.t11
  obtain ⟨f12, h12⟩ := T.t12
  obtain ⟨f13, h13⟩ := T.t13
  obtain ⟨f14, h14⟩ := T.t14
  obtain ⟨f15, h15⟩ := T.t15
  obtain ⟨f16, h16⟩ := T.t16
  obtain ⟨f17, h17⟩ := T.t17
  refine ⟨_, (pss_cons (ps_if (pt_cmpR op_lt (pv 0) pe_int (nomark _)) (pss_one (ps_ret (pe_cal cL hr (by decide) (by rfl) (pa_cons (pv 0) (pa_cons (pv 1) pa_nil))))) pss_nil)
    (pss_cons (ps_if (pt_cmpR op_lt (pv 0) pe_int (nomark _)) (pss_one (ps_ret (pe_ifExp (pt_cmpR op_eq (pv 0) pe_int (nomark _)) (pe_mkG h9 hr (by decide) (by rfl) (pa_cons (pv 1) pa_nil)) (pe_ifExp (pt_cmpR op_eq (pv 0) pe_int (nomark _)) (pe_mkG h10 hr (by decide) (by rfl) (pa_cons (pv 1) pa_nil)) (pe_mkG h11 hr (by decide) (by rfl) (pa_cons (pv 1) pa_nil)))))) pss_nil)
    (pss_cons (ps_if (pt_cmpR op_lt (pv 0) pe_int (nomark _)) (pss_one (ps_ret (pe_ifExp (pt_cmpR op_eq (pv 0) pe_int (nomark _)) (pe_mkG h12 hr (by decide) (by rfl) (pa_cons (pv 1) pa_nil)) (pe_mkG h13 hr (by decide) (by rfl) (pa_cons (pv 1) pa_nil))))) pss_nil)
    (pss_cons (ps_if (pt_cmpR op_lt (pv 0) pe_int (nomark _)) (pss_one (ps_ret (pe_ifExp (pt_cmpR op_eq (pv 0) pe_int (nomark _)) (pe_mkI h14 hr (by decide) (by rfl) (pa_cons (pv 1) pa_nil)) (pe_ifExp (pt_cmpR op_eq (pv 0) pe_int (nomark _)) (pe_mkI h15 hr (by decide) (by rfl) (pa_cons (pv 1) pa_nil)) (pe_mkI h16 hr (by decide) (by rfl) (pa_cons (pv 1) pa_nil)))))) pss_nil)
    (pss_one (ps_ret (pe_ifExp (pt_cmpR op_eq (pv 0) pe_int (nomark _)) (pe_mkS h17 hr (by decide) (by rfl) (pa_cons (pv 1) pa_nil)) (pe_ifExp (pt_cmpR op_eq (pv 0) pe_int (nomark _)) (pe_exc0 PySem.F.excBase_ValueError T.t18.ex T.t18.gC T.t18.kC (by rfl)) (pe_exc0 PySem.F.excBase_ValueError T.t19.ex T.t19.gC T.t19.kC (by rfl)))))))))), ?_⟩
  walk_at "rd"
  refine ⟨.int n, rfl, _, _, rfl, rfl, _, rfl, ite2 (fun c => ?_) (fun c => ?_)⟩
  · have c := of_decide_eq_true c
    exact ⟨.int n, rfl, v, rfl, n, v, rfl, by omega, by omega, q⟩
  · have c := dlt c
    refine ⟨.int n, rfl, _, _, rfl, rfl, _, rfl, ite2 (fun c => ?_) (fun c => ?_)⟩
    · have c := of_decide_eq_true c
      refine ⟨.int n, rfl, rfl, _, rfl, ite2 (fun c => ?_) (fun c => ?_)⟩
      · have c := veq c
        have hn : n = 9 := by omega
        subst hn
        exact ⟨v, rfl, v, rfl, fun e H2 s x => q e H2 s (.inl ⟨by decide, x⟩)⟩
      · have c := vne c
        refine ⟨.int n, rfl, rfl, _, rfl, ite2 (fun c => ?_) (fun c => ?_)⟩
        · have c := veq c
          have hn : n = 10 := by omega
          subst hn
          exact ⟨v, rfl, v, rfl, fun e H2 s x => q e H2 s (.inl ⟨by decide, x⟩)⟩
        · have c := vne c
          have hn : n = 11 := by omega
          subst hn
          exact ⟨v, rfl, v, rfl, fun e H2 s x => q e H2 s (.inl ⟨by decide, x⟩)⟩
    · have c := dlt c
      refine ⟨.int n, rfl, _, _, rfl, rfl, _, rfl, ite2 (fun c => ?_) (fun c => ?_)⟩
      · have c := of_decide_eq_true c
        refine ⟨.int n, rfl, rfl, _, rfl, ite2 (fun c => ?_) (fun c => ?_)⟩
        · have c := veq c
          have hn : n = 12 := by omega
          subst hn
          exact ⟨v, rfl, v, rfl, fun e H2 s x => q e H2 s (.inl ⟨by decide, x⟩)⟩
        · have c := vne c
          have hn : n = 13 := by omega
          subst hn
          exact ⟨v, rfl, v, rfl, fun e H2 s x => q e H2 s (.inl ⟨by decide, x⟩)⟩
      · have c := dlt c
        refine ⟨.int n, rfl, _, _, rfl, rfl, _, rfl, ite2 (fun c => ?_) (fun c => ?_)⟩
        · have c := of_decide_eq_true c
          refine ⟨.int n, rfl, rfl, _, rfl, ite2 (fun c => ?_) (fun c => ?_)⟩
          · have c := veq c
            have hn : n = 14 := by omega
            subst hn
            exact ⟨v, rfl, v, rfl, fun e H2 s x => q e H2 s (.inl ⟨by decide, x⟩)⟩
          · have c := vne c
            refine ⟨.int n, rfl, rfl, _, rfl, ite2 (fun c => ?_) (fun c => ?_)⟩
            · have c := veq c
              have hn : n = 15 := by omega
              subst hn
              exact ⟨v, rfl, v, rfl, fun e H2 s x => q e H2 s (.inl ⟨by decide, x⟩)⟩
            · have c := vne c
              have hn : n = 16 := by omega
              subst hn
              exact ⟨v, rfl, v, rfl, fun e H2 s x => q e H2 s (.inl ⟨by decide, x⟩)⟩
        · have c := dlt c
          refine ⟨.int n, rfl, rfl, _, rfl, ite2 (fun c => ?_) (fun c => ?_)⟩
          · have c := veq c
            have hn : n = 17 := by omega
            subst hn
            exact ⟨v, rfl, v, rfl, fun e H2 s x => q e H2 s (.inl ⟨by decide, x⟩)⟩
          · have c := vne c
            refine ⟨.int n, rfl, rfl, _, rfl, ite2 (fun c => ?_) (fun c => ?_)⟩
            · have c := veq c
              have hn : n = 18 := by omega
              subst hn
              exact fun e ne => q e _ (same_new ne) (.inr ⟨by decide, upd_same⟩)
            · have c := vne c
              have hn : n = 19 := by omega
              subst hn
              exact fun e ne => q e _ (same_new ne) (.inr ⟨by decide, upd_same⟩)
theorem scLowN : FnScope ["_law_spot", "_law_thing"] ["_law_spot", "_law_thing"] (defScope sLowN) := ⟨rfl, rfl, rfl, by decide +kernel, rfl, by decide +kernel, by decide +kernel⟩
theorem ok_lowN (D : Def K mg "_law_low_name" sLowN ["_law_spot", "_law_thing"]) (T : Txt K mg c) : Cal P w K mg base "_law_low_name" 2 ["_law_spot", "_law_thing"] (spEr c 0 9) := by
  refine D.ok scLowN (fun vs H Q E h => ?_) (fun f cdv A out s H vs Q E hr h => ?_)
  · obtain ⟨n, v, rfl, _⟩ := h; rfl
  obtain ⟨n, v, rfl, n0, n1, q⟩ := h
  obtain ⟨f0, h0⟩ := T.t0
  obtain ⟨f1, h1⟩ := T.t1
  obtain ⟨f2, h2⟩ := T.t2
  obtain ⟨f3, h3⟩ := T.t3
  obtain ⟨f4, h4⟩ := T.t4
  obtain ⟨f5, h5⟩ := T.t5
  obtain ⟨f6, h6⟩ := T.t6
  obtain ⟨f7, h7⟩ := T.t7
  obtain ⟨f8, h8⟩ := T.t8
  refine ⟨_, (pss_cons (ps_if (pt_cmpR op_lt (pv 0) pe_int (nomark _)) (pss_cons (ps_if (pt_cmpR op_eq (pv 0) pe_int (nomark _)) (pss_one (ps_ret (pe_mkGK h0 hr (by decide) (by rfl) (pk_cons (pv 1) pk_nil)))) pss_nil)
    (pss_one (ps_ret (pe_ifExp (pt_cmpR op_eq (pv 0) pe_int (nomark _)) (pe_mkGK h1 hr (by decide) (by rfl) (pk_cons (pv 1) pk_nil)) (pe_mkGK h2 hr (by decide) (by rfl) (pk_cons (pv 1) pk_nil)))))) pss_nil)
    (pss_cons (ps_if (pt_cmpR op_lt (pv 0) pe_int (nomark _)) (pss_cons (ps_if (pt_cmpR op_eq (pv 0) pe_int (nomark _)) (pss_one (ps_ret (pe_mkGK h3 hr (by decide) (by rfl) (pk_cons (pv 1) pk_nil)))) pss_nil)
    (pss_one (ps_ret (pe_ifExp (pt_cmpR op_eq (pv 0) pe_int (nomark _)) (pe_mkGK h4 hr (by decide) (by rfl) (pk_cons (pv 1) pk_nil)) (pe_mkGK h5 hr (by decide) (by rfl) (pk_cons (pv 1) pk_nil)))))) pss_nil)
    (pss_cons (ps_if (pt_cmpR op_eq (pv 0) pe_int (nomark _)) (pss_one (ps_ret (pe_mkGK h6 hr (by decide) (by rfl) (pk_cons (pv 1) pk_nil)))) pss_nil)
    (pss_one (ps_ret (pe_ifExp (pt_cmpR op_eq (pv 0) pe_int (nomark _)) (pe_mkGK h7 hr (by decide) (by rfl) (pk_cons (pv 1) pk_nil)) (pe_mkGK h8 hr (by decide) (by rfl) (pk_cons (pv 1) pk_nil)))))))), ?_⟩
  walk_at "rd"
  refine ⟨.int n, rfl, _, _, rfl, rfl, _, rfl, ite2 (fun c => ?_) (fun c => ?_)⟩
  · have c := of_decide_eq_true c
    refine ⟨.int n, rfl, rfl, _, rfl, ite2 (fun c => ?_) (fun c => ?_)⟩
    · have c := veq c
      have hn : n = 0 := by omega
      subst hn
      exact ⟨v, rfl, v, rfl, fun e H2 s x => q e H2 s (.inl ⟨by decide, x⟩)⟩
    · have c := vne c
      refine ⟨.int n, rfl, rfl, _, rfl, ite2 (fun c => ?_) (fun c => ?_)⟩
      · have c := veq c
        have hn : n = 1 := by omega
        subst hn
        exact ⟨v, rfl, v, rfl, fun e H2 s x => q e H2 s (.inl ⟨by decide, x⟩)⟩
      · have c := vne c
        have hn : n = 2 := by omega
        subst hn
        exact ⟨v, rfl, v, rfl, fun e H2 s x => q e H2 s (.inl ⟨by decide, x⟩)⟩
  · have c := dlt c
    refine ⟨.int n, rfl, _, _, rfl, rfl, _, rfl, ite2 (fun c => ?_) (fun c => ?_)⟩
    · have c := of_decide_eq_true c
      refine ⟨.int n, rfl, rfl, _, rfl, ite2 (fun c => ?_) (fun c => ?_)⟩
      · have c := veq c
        have hn : n = 3 := by omega
        subst hn
        exact ⟨v, rfl, v, rfl, fun e H2 s x => q e H2 s (.inl ⟨by decide, x⟩)⟩
      · have c := vne c
        refine ⟨.int n, rfl, rfl, _, rfl, ite2 (fun c => ?_) (fun c => ?_)⟩
        · have c := veq c
          have hn : n = 4 := by omega
          subst hn
          exact ⟨v, rfl, v, rfl, fun e H2 s x => q e H2 s (.inl ⟨by decide, x⟩)⟩
        · have c := vne c
          have hn : n = 5 := by omega
          subst hn
          exact ⟨v, rfl, v, rfl, fun e H2 s x => q e H2 s (.inl ⟨by decide, x⟩)⟩
    · have c := dlt c
      refine ⟨.int n, rfl, rfl, _, rfl, ite2 (fun c => ?_) (fun c => ?_)⟩
      · have c := veq c
        have hn : n = 6 := by omega
        subst hn
        exact ⟨v, rfl, v, rfl, fun e H2 s x => q e H2 s (.inl ⟨by decide, x⟩)⟩
      · have c := vne c
        refine ⟨.int n, rfl, rfl, _, rfl, ite2 (fun c => ?_) (fun c => ?_)⟩
        · have c := veq c
          have hn : n = 7 := by omega
          subst hn
          exact ⟨v, rfl, v, rfl, fun e H2 s x => q e H2 s (.inl ⟨by decide, x⟩)⟩
        · have c := vne c
          have hn : n = 8 := by omega
          subst hn
          exact ⟨v, rfl, v, rfl, fun e H2 s x => q e H2 s (.inl ⟨by decide, x⟩)⟩
theorem scByName : FnScope ["_law_spot", "_law_thing"] ["_law_spot", "_law_thing"] (defScope sByName) := ⟨rfl, rfl, rfl, by decide +kernel, rfl, by decide +kernel, by decide +kernel⟩
theorem ok_byName (D : Def K mg "_law_by_name" sByName ["_law_spot", "_law_thing"]) (T : Txt K mg c) (cL : Cal P w K mg base "_law_low_name" 2 ["_law_spot", "_law_thing"] (spEr c 0 9)) : Cal P w K mg base "_law_by_name" 3 ["_law_spot", "_law_thing"] (spEr c 0 18) := by
  refine D.ok scByName (fun vs H Q E h => ?_) (fun f cdv A out s H vs Q E hr h => ?_)
  · obtain ⟨n, v, rfl, _⟩ := h; rfl
  obtain ⟨n, v, rfl, n0, n1, q⟩ := h
  obtain ⟨f9, h9⟩ := T.t9
  obtain ⟨f10, h10⟩ := T.t10
  obtain ⟨f11, h11⟩ := T.t11
  obtain ⟨f12, h12⟩ := T.t12
  obtain ⟨f13, h13⟩ := T.t13
  obtain ⟨f14, h14⟩ := T.t14
  obtain ⟨f15, h15⟩ := T.t15
  obtain ⟨f16, h16⟩ := T.t16
  obtain ⟨f17, h17⟩ := T.t17
  refine ⟨_, (pss_cons (ps_if (pt_cmpR op_lt (pv 0) pe_int (nomark _)) (pss_one (ps_ret (pe_cal cL hr (by decide) (by rfl) (pa_cons (pv 0) (pa_cons (pv 1) pa_nil))))) pss_nil)
    (pss_cons (ps_if (pt_cmpR op_lt (pv 0) pe_int (nomark _)) (pss_cons (ps_if (pt_cmpR op_eq (pv 0) pe_int (nomark _)) (pss_one (ps_ret (pe_mkGK h9 hr (by decide) (by rfl) (pk_cons (pv 1) pk_nil)))) pss_nil)
    (pss_one (ps_ret (pe_ifExp (pt_cmpR op_eq (pv 0) pe_int (nomark _)) (pe_mkGK h10 hr (by decide) (by rfl) (pk_cons (pv 1) pk_nil)) (pe_mkGK h11 hr (by decide) (by rfl) (pk_cons (pv 1) pk_nil)))))) pss_nil)
    (pss_cons (ps_if (pt_cmpR op_lt (pv 0) pe_int (nomark _)) (pss_one (ps_ret (pe_ifExp (pt_cmpR op_eq (pv 0) pe_int (nomark _)) (pe_mkGK h12 hr (by decide) (by rfl) (pk_cons (pv 1) pk_nil)) (pe_mkGK h13 hr (by decide) (by rfl) (pk_cons (pv 1) pk_nil))))) pss_nil)
    (pss_cons (ps_if (pt_cmpR op_lt (pv 0) pe_int (nomark _)) (pss_one (ps_ret (pe_ifExp (pt_cmpR op_eq (pv 0) pe_int (nomark _)) (pe_mkIK h14 hr (by decide) (by rfl) (pk_cons (pv 1) pk_nil)) (pe_mkIK h15 hr (by decide) (by rfl) (pk_cons (pv 1) pk_nil))))) pss_nil)
    (pss_one (ps_ret (pe_ifExp (pt_cmpR op_eq (pv 0) pe_int (nomark _)) (pe_mkIK h16 hr (by decide) (by rfl) (pk_cons (pv 1) pk_nil)) (pe_mkSK h17 hr (by decide) (by rfl) (pk_cons (pv 1) pk_nil))))))))), ?_⟩
  walk_at "rd"
  refine ⟨.int n, rfl, _, _, rfl, rfl, _, rfl, ite2 (fun c => ?_) (fun c => ?_)⟩
  · have c := of_decide_eq_true c
    exact ⟨.int n, rfl, v, rfl, n, v, rfl, by omega, by omega, q⟩
  · have c := dlt c
    refine ⟨.int n, rfl, _, _, rfl, rfl, _, rfl, ite2 (fun c => ?_) (fun c => ?_)⟩
    · have c := of_decide_eq_true c
      refine ⟨.int n, rfl, rfl, _, rfl, ite2 (fun c => ?_) (fun c => ?_)⟩
      · have c := veq c
        have hn : n = 9 := by omega
        subst hn
        exact ⟨v, rfl, v, rfl, fun e H2 s x => q e H2 s (.inl ⟨by decide, x⟩)⟩
      · have c := vne c
        refine ⟨.int n, rfl, rfl, _, rfl, ite2 (fun c => ?_) (fun c => ?_)⟩
        · have c := veq c
          have hn : n = 10 := by omega
          subst hn
          exact ⟨v, rfl, v, rfl, fun e H2 s x => q e H2 s (.inl ⟨by decide, x⟩)⟩
        · have c := vne c
          have hn : n = 11 := by omega
          subst hn
          exact ⟨v, rfl, v, rfl, fun e H2 s x => q e H2 s (.inl ⟨by decide, x⟩)⟩
    · have c := dlt c
      refine ⟨.int n, rfl, _, _, rfl, rfl, _, rfl, ite2 (fun c => ?_) (fun c => ?_)⟩
      · have c := of_decide_eq_true c
        refine ⟨.int n, rfl, rfl, _, rfl, ite2 (fun c => ?_) (fun c => ?_)⟩
        · have c := veq c
          have hn : n = 12 := by omega
          subst hn
          exact ⟨v, rfl, v, rfl, fun e H2 s x => q e H2 s (.inl ⟨by decide, x⟩)⟩
        · have c := vne c
          have hn : n = 13 := by omega
          subst hn
          exact ⟨v, rfl, v, rfl, fun e H2 s x => q e H2 s (.inl ⟨by decide, x⟩)⟩
      · have c := dlt c
        refine ⟨.int n, rfl, _, _, rfl, rfl, _, rfl, ite2 (fun c => ?_) (fun c => ?_)⟩
        · have c := of_decide_eq_true c
          refine ⟨.int n, rfl, rfl, _, rfl, ite2 (fun c => ?_) (fun c => ?_)⟩
          · have c := veq c
            have hn : n = 14 := by omega
            subst hn
            exact ⟨v, rfl, v, rfl, fun e H2 s x => q e H2 s (.inl ⟨by decide, x⟩)⟩
          · have c := vne c
            have hn : n = 15 := by omega
            subst hn
            exact ⟨v, rfl, v, rfl, fun e H2 s x => q e H2 s (.inl ⟨by decide, x⟩)⟩
        · have c := dlt c
          refine ⟨.int n, rfl, rfl, _, rfl, ite2 (fun c => ?_) (fun c => ?_)⟩
          · have c := veq c
            have hn : n = 16 := by omega
            subst hn
            exact ⟨v, rfl, v, rfl, fun e H2 s x => q e H2 s (.inl ⟨by decide, x⟩)⟩
          · have c := vne c
            have hn : n = 17 := by omega
            subst hn
            exact ⟨v, rfl, v, rfl, fun e H2 s x => q e H2 s (.inl ⟨by decide, x⟩)⟩
end
end K01

set_option Elab.async false
set_option linter.all false
set_option maxRecDepth 100000
set_option maxHeartbeats 8000000
local macro_rules | `(tactic| walk_at "rd") => `(tactic| dsimp only [Evl.tCut, L2.tSeq, L2.tNext, L2.tRet, L2.tRetN, L2.tAsg, L2.gName, L2.tIfS, L2.tDrop, L2.tCons, L2.tNil, L2.tC, L2.tVar, L2.tCB, L2.tAndV, L2.tOrV, L2.tNotV, L2.tB, L2.tTest, L2.tOp, L2.tUn, L2.tNot, L2.tAnd, L2.tOr, L2.tIf, L2.tCall, L2.tTup, L2.tLst, L2.tNotT, L2.tYes, L2.gTup, L2.gCons, L2.gNil, L2.gSub, L2.tBM0, L2.tBM, L2.tWhile, L2.tFor, L2.iRng1, L2.iRng2, L2.tAugS, Tw.iEnumT, L2.tCKw, L2.tAug, L2.ipI, RT.iRevA, L2.tPar, L2.tPar3, L2.tSl, L2.tNoPart, L2.tPart, Tw.tRevT, Tw.tMk, Tw.tGet])
namespace K01
open PySem PySem.Spec PyProof.Rows L2 Tw
/-! which classes an error belongs to -/
def tr (n : Nat) : List V := (List.range 27).map fun j => .bl (tb n j)
/-- built-in classes that the text gives no other meaning -/
structure Nt (mg : Str → Option Value) : Prop where
  b0 : mg "ValueError" = none
  b1 : mg "Exception" = none
  b2 : mg "LookupError" = none
  b3 : mg "TypeError" = none
  b4 : mg "ArithmeticError" = none
  b5 : mg "RuntimeError" = none
  b6 : mg "AttributeError" = none
theorem Txt.xg {K : PySem.W.Frag} {mg : Str → Option Value} {c : Nat → Addr} (T : Txt K mg c) : ∀ n, n < 18 → XgC K (c n) (fld n)
  | 0, _ => by obtain ⟨f, h⟩ := T.t0; exact ⟨h.ga, h.gg, h.exC, h.noN, h.hdC⟩
  | 1, _ => by obtain ⟨f, h⟩ := T.t1; exact ⟨h.ga, h.gg, h.exC, h.noN, h.hdC⟩
  | 2, _ => by obtain ⟨f, h⟩ := T.t2; exact ⟨h.ga, h.gg, h.exC, h.noN, h.hdC⟩
  | 3, _ => by obtain ⟨f, h⟩ := T.t3; exact ⟨h.ga, h.gg, h.exC, h.noN, h.hdC⟩
  | 4, _ => by obtain ⟨f, h⟩ := T.t4; exact ⟨h.ga, h.gg, h.exC, h.noN, h.hdC⟩
  | 5, _ => by obtain ⟨f, h⟩ := T.t5; exact ⟨h.ga, h.gg, h.exC, h.noN, h.hdC⟩
  | 6, _ => by obtain ⟨f, h⟩ := T.t6; exact ⟨h.ga, h.gg, h.exC, h.noN, h.hdC⟩
  | 7, _ => by obtain ⟨f, h⟩ := T.t7; exact ⟨h.ga, h.gg, h.exC, h.noN, h.hdC⟩
  | 8, _ => by obtain ⟨f, h⟩ := T.t8; exact ⟨h.ga, h.gg, h.exC, h.noN, h.hdC⟩
  | 9, _ => by obtain ⟨f, h⟩ := T.t9; exact ⟨h.ga, h.gg, h.exC, h.noN, h.hdC⟩
  | 10, _ => by obtain ⟨f, h⟩ := T.t10; exact ⟨h.ga, h.gg, h.exC, h.noN, h.hdC⟩
  | 11, _ => by obtain ⟨f, h⟩ := T.t11; exact ⟨h.ga, h.gg, h.exC, h.noN, h.hdC⟩
  | 12, _ => by obtain ⟨f, h⟩ := T.t12; exact ⟨h.ga, h.gg, h.exC, h.noN, h.hdC⟩
  | 13, _ => by obtain ⟨f, h⟩ := T.t13; exact ⟨h.ga, h.gg, h.exC, h.noN, h.hdC⟩
  | 14, _ => by obtain ⟨f, h⟩ := T.t14; exact ⟨h.ga, h.gg, h.exC, h.noN, h.hdC⟩
  | 15, _ => by obtain ⟨f, h⟩ := T.t15; exact ⟨h.ga, h.gg, h.exC, h.noN, h.hdC⟩
  | 16, _ => by obtain ⟨f, h⟩ := T.t16; exact ⟨h.ga, h.gg, h.exC, h.noN, h.hdC⟩
  | 17, _ => by obtain ⟨f, h⟩ := T.t17; exact ⟨h.ga, h.gg, h.exC, h.noN, h.hdC⟩
  | n + 18, h => absurd h (by omega)
def spTruths (c : Nat → Addr) : Sp := fun vs H Q _ => ∃ (e : Addr) (n : Nat) (v : V), vs = [.ref e] ∧ n < 20 ∧ Er c H e n v ∧ ∀ p H', Same H H' → H p = none → H' p = some (.lst (tr n)) → Q (.ref p) H'
section
variable {P : Program} {w : World} {K : PySem.W.Frag} {mg : Str → Option Value} {base : Heap} {c : Nat → Addr}
theorem is_err {H : Hp} {e : Addr} {n : Nat} {v : V} {Q : VK} {cv : V} {j : Nat} (T : Txt K mg c) (er : Er c H e n v) (hn : n < 20) (k : ClsV cv (tyv c j)) (hj : j < 27) (q : Q (.bl (tb n j)) H) : rIsX K [.ref e, cv] H Q := by
  refine ⟨e, c n, cv, _, _, rfl, k, T.x n hn, ?_, T.k n hn j hj, q⟩
  rcases er with ⟨_, h⟩ | ⟨_, h⟩
  · exact .inr ⟨_, h⟩
  · exact .inl h
theorem scTruths : FnScope ["_law_error", "_law_found"] ["_law_error"] (defScope sTruths) := ⟨rfl, rfl, rfl, by decide +kernel, rfl, by decide +kernel, by decide +kernel⟩
theorem ok_truths (D : Def K mg "_law_truths" sTruths ["_law_error"]) (nb : Nb mg) (nt : Nt mg) (T : Txt K mg c) : Cal P w K mg base "_law_truths" 1 ["_law_error"] (spTruths c) := by
  refine D.ok scTruths (fun vs H Q E h => ?_) (fun f cdv A out s H vs Q E hr h => ?_)
  · obtain ⟨e, n, v, rfl, _⟩ := h; rfl
  obtain ⟨e, n, v, rfl, hn, er, q⟩ := h
  obtain ⟨f0, h0⟩ := T.t0
  obtain ⟨f1, h1⟩ := T.t1
  obtain ⟨f2, h2⟩ := T.t2
  obtain ⟨f3, h3⟩ := T.t3
  obtain ⟨f4, h4⟩ := T.t4
  obtain ⟨f5, h5⟩ := T.t5
  obtain ⟨f6, h6⟩ := T.t6
  obtain ⟨f7, h7⟩ := T.t7
  obtain ⟨f8, h8⟩ := T.t8
  obtain ⟨f9, h9⟩ := T.t9
  obtain ⟨f10, h10⟩ := T.t10
  obtain ⟨f11, h11⟩ := T.t11
  obtain ⟨f12, h12⟩ := T.t12
  obtain ⟨f13, h13⟩ := T.t13
  obtain ⟨f14, h14⟩ := T.t14
  obtain ⟨f15, h15⟩ := T.t15
  obtain ⟨f16, h16⟩ := T.t16
  obtain ⟨f17, h17⟩ := T.t17
  refine ⟨_, (pss_cons (ps_set (i := 1) scTruths.nd rfl (Or.inl rfl) (pe_lst (pa_cons (pe_callB (id := "isinstance") (r := rIsX K) call_isX (by rfl) nb.isi (by decide +kernel) (pa_cons (pv 0) (pa_cons (pe_glob (v := .ref (c 0)) (by rfl) h0.gC rfl) pa_nil))) (pa_cons (pe_callB (id := "isinstance") (r := rIsX K) call_isX (by rfl) nb.isi (by decide +kernel) (pa_cons (pv 0) (pa_cons (pe_glob (v := .ref (c 1)) (by rfl) h1.gC rfl) pa_nil))) (pa_cons (pe_callB (id := "isinstance") (r := rIsX K) call_isX (by rfl) nb.isi (by decide +kernel) (pa_cons (pv 0) (pa_cons (pe_glob (v := .ref (c 2)) (by rfl) h2.gC rfl) pa_nil))) pa_nil)))))
    (pss_cons (ps_set (i := 1) scTruths.nd rfl (Or.inl rfl) (pe_op op_cat (pv 1) (pe_lst (pa_cons (pe_callB (id := "isinstance") (r := rIsX K) call_isX (by rfl) nb.isi (by decide +kernel) (pa_cons (pv 0) (pa_cons (pe_glob (v := .ref (c 3)) (by rfl) h3.gC rfl) pa_nil))) (pa_cons (pe_callB (id := "isinstance") (r := rIsX K) call_isX (by rfl) nb.isi (by decide +kernel) (pa_cons (pv 0) (pa_cons (pe_glob (v := .ref (c 4)) (by rfl) h4.gC rfl) pa_nil))) pa_nil)))))
    (pss_cons (ps_set (i := 1) scTruths.nd rfl (Or.inl rfl) (pe_op op_cat (pv 1) (pe_lst (pa_cons (pe_callB (id := "isinstance") (r := rIsX K) call_isX (by rfl) nb.isi (by decide +kernel) (pa_cons (pv 0) (pa_cons (pe_glob (v := .ref (c 5)) (by rfl) h5.gC rfl) pa_nil))) (pa_cons (pe_callB (id := "isinstance") (r := rIsX K) call_isX (by rfl) nb.isi (by decide +kernel) (pa_cons (pv 0) (pa_cons (pe_glob (v := .ref (c 6)) (by rfl) h6.gC rfl) pa_nil))) pa_nil)))))
    (pss_cons (ps_set (i := 1) scTruths.nd rfl (Or.inl rfl) (pe_op op_cat (pv 1) (pe_lst (pa_cons (pe_callB (id := "isinstance") (r := rIsX K) call_isX (by rfl) nb.isi (by decide +kernel) (pa_cons (pv 0) (pa_cons (pe_glob (v := .ref (c 7)) (by rfl) h7.gC rfl) pa_nil))) (pa_cons (pe_callB (id := "isinstance") (r := rIsX K) call_isX (by rfl) nb.isi (by decide +kernel) (pa_cons (pv 0) (pa_cons (pe_glob (v := .ref (c 8)) (by rfl) h8.gC rfl) pa_nil))) pa_nil)))))
    (pss_cons (ps_set (i := 1) scTruths.nd rfl (Or.inl rfl) (pe_op op_cat (pv 1) (pe_lst (pa_cons (pe_callB (id := "isinstance") (r := rIsX K) call_isX (by rfl) nb.isi (by decide +kernel) (pa_cons (pv 0) (pa_cons (pe_glob (v := .ref (c 9)) (by rfl) h9.gC rfl) pa_nil))) (pa_cons (pe_callB (id := "isinstance") (r := rIsX K) call_isX (by rfl) nb.isi (by decide +kernel) (pa_cons (pv 0) (pa_cons (pe_glob (v := .ref (c 10)) (by rfl) h10.gC rfl) pa_nil))) (pa_cons (pe_callB (id := "isinstance") (r := rIsX K) call_isX (by rfl) nb.isi (by decide +kernel) (pa_cons (pv 0) (pa_cons (pe_glob (v := .ref (c 11)) (by rfl) h11.gC rfl) pa_nil))) pa_nil))))))
    (pss_cons (ps_set (i := 1) scTruths.nd rfl (Or.inl rfl) (pe_op op_cat (pv 1) (pe_lst (pa_cons (pe_callB (id := "isinstance") (r := rIsX K) call_isX (by rfl) nb.isi (by decide +kernel) (pa_cons (pv 0) (pa_cons (pe_glob (v := .ref (c 12)) (by rfl) h12.gC rfl) pa_nil))) (pa_cons (pe_callB (id := "isinstance") (r := rIsX K) call_isX (by rfl) nb.isi (by decide +kernel) (pa_cons (pv 0) (pa_cons (pe_glob (v := .ref (c 13)) (by rfl) h13.gC rfl) pa_nil))) (pa_cons (pe_callB (id := "isinstance") (r := rIsX K) call_isX (by rfl) nb.isi (by decide +kernel) (pa_cons (pv 0) (pa_cons (pe_glob (v := .ref (c 14)) (by rfl) h14.gC rfl) pa_nil))) pa_nil))))))
    (pss_cons (ps_set (i := 1) scTruths.nd rfl (Or.inl rfl) (pe_op op_cat (pv 1) (pe_lst (pa_cons (pe_callB (id := "isinstance") (r := rIsX K) call_isX (by rfl) nb.isi (by decide +kernel) (pa_cons (pv 0) (pa_cons (pe_glob (v := .ref (c 15)) (by rfl) h15.gC rfl) pa_nil))) (pa_cons (pe_callB (id := "isinstance") (r := rIsX K) call_isX (by rfl) nb.isi (by decide +kernel) (pa_cons (pv 0) (pa_cons (pe_glob (v := .ref (c 16)) (by rfl) h16.gC rfl) pa_nil))) (pa_cons (pe_callB (id := "isinstance") (r := rIsX K) call_isX (by rfl) nb.isi (by decide +kernel) (pa_cons (pv 0) (pa_cons (pe_glob (v := .ref (c 17)) (by rfl) h17.gC rfl) pa_nil))) pa_nil))))))
    (pss_cons (ps_set (i := 1) scTruths.nd rfl (Or.inl rfl) (pe_op op_cat (pv 1) (pe_lst (pa_cons (pe_callB (id := "isinstance") (r := rIsX K) call_isX (by rfl) nb.isi (by decide +kernel) (pa_cons (pv 0) (pa_cons (pe_glob (v := .ref (c 18)) (by rfl) T.t18.gC rfl) pa_nil))) (pa_cons (pe_callB (id := "isinstance") (r := rIsX K) call_isX (by rfl) nb.isi (by decide +kernel) (pa_cons (pv 0) (pa_cons (pe_glob (v := .ref (c 19)) (by rfl) T.t19.gC rfl) pa_nil))) (pa_cons (pe_callB (id := "isinstance") (r := rIsX K) call_isX (by rfl) nb.isi (by decide +kernel) (pa_cons (pv 0) (pa_cons (pe_bltn (v := .ty "ValueError") (by rfl) nt.b0 (by decide +kernel) rfl) pa_nil))) pa_nil))))))
    (pss_cons (ps_set (i := 1) scTruths.nd rfl (Or.inl rfl) (pe_op op_cat (pv 1) (pe_lst (pa_cons (pe_callB (id := "isinstance") (r := rIsX K) call_isX (by rfl) nb.isi (by decide +kernel) (pa_cons (pv 0) (pa_cons (pe_bltn (v := .ty "Exception") (by rfl) nt.b1 (by decide +kernel) rfl) pa_nil))) (pa_cons (pe_callB (id := "isinstance") (r := rIsX K) call_isX (by rfl) nb.isi (by decide +kernel) (pa_cons (pv 0) (pa_cons (pe_bltn (v := .ty "LookupError") (by rfl) nt.b2 (by decide +kernel) rfl) pa_nil))) (pa_cons (pe_callB (id := "isinstance") (r := rIsX K) call_isX (by rfl) nb.isi (by decide +kernel) (pa_cons (pv 0) (pa_cons (pe_bltn (v := .ty "TypeError") (by rfl) nt.b3 (by decide +kernel) rfl) pa_nil))) pa_nil))))))
    (pss_cons (ps_set (i := 1) scTruths.nd rfl (Or.inl rfl) (pe_op op_cat (pv 1) (pe_lst (pa_cons (pe_callB (id := "isinstance") (r := rIsX K) call_isX (by rfl) nb.isi (by decide +kernel) (pa_cons (pv 0) (pa_cons (pe_bltn (v := .ty "ArithmeticError") (by rfl) nt.b4 (by decide +kernel) rfl) pa_nil))) (pa_cons (pe_callB (id := "isinstance") (r := rIsX K) call_isX (by rfl) nb.isi (by decide +kernel) (pa_cons (pv 0) (pa_cons (pe_bltn (v := .ty "RuntimeError") (by rfl) nt.b5 (by decide +kernel) rfl) pa_nil))) pa_nil)))))
    (pss_one (ps_ret (pe_op op_cat (pv 1) (pe_lst (pa_cons (pe_callB (id := "isinstance") (r := rIsX K) call_isX (by rfl) nb.isi (by decide +kernel) (pa_cons (pv 0) (pa_cons (pe_bltn (v := .ty "AttributeError") (by rfl) nt.b6 (by decide +kernel) rfl) pa_nil))) pa_nil))))))))))))))), ?_⟩
  walk_at "rd"
  refine ⟨.ref e, rfl, is_err T er hn (j := 0) (.own (c 0)) (by decide) ⟨.ref e, rfl, is_err T er hn (j := 1) (.own (c 1)) (by decide) ⟨.ref e, rfl, is_err T er hn (j := 2) (.own (c 2)) (by decide) ⟨sz (by simp), fun F0 n0 => ?_⟩⟩⟩⟩
  have s0 := same_new (o := .lst [V.bl (tb n 0), V.bl (tb n 1), V.bl (tb n 2)]) n0
  have h0f : upd H F0 (.lst [V.bl (tb n 0), V.bl (tb n 1), V.bl (tb n 2)]) F0 = some (.lst [V.bl (tb n 0), V.bl (tb n 1), V.bl (tb n 2)]) := upd_same
  generalize upd H F0 (.lst [V.bl (tb n 0), V.bl (tb n 1), V.bl (tb n 2)]) = H0 at s0 h0f ⊢
  have e0 := er.same s0
  refine ⟨.ref F0, rfl, ⟨.ref e, rfl, is_err T e0 hn (j := 3) (.own (c 3)) (by decide) ⟨.ref e, rfl, is_err T e0 hn (j := 4) (.own (c 4)) (by decide) ⟨sz (by simp), fun p1 m1 => ?_⟩⟩⟩⟩
  have u1 := same_new (o := .lst [V.bl (tb n 3), V.bl (tb n 4)]) m1
  refine ⟨F0, p1, [V.bl (tb n 0), V.bl (tb n 1), V.bl (tb n 2)], [V.bl (tb n 3), V.bl (tb n 4)], rfl, rfl, u1 _ _ h0f, upd_same, sz (by simp), fun F1 n1 => ?_⟩
  have w1 := u1.trans (same_new (o := .lst ([V.bl (tb n 0), V.bl (tb n 1), V.bl (tb n 2)] ++ [V.bl (tb n 3), V.bl (tb n 4)])) n1)
  have x1 := (s0.trans u1).free n1
  have h1f : upd (upd H0 p1 (.lst [V.bl (tb n 3), V.bl (tb n 4)])) F1 (.lst ([V.bl (tb n 0), V.bl (tb n 1), V.bl (tb n 2)] ++ [V.bl (tb n 3), V.bl (tb n 4)])) F1 = some (.lst ([V.bl (tb n 0), V.bl (tb n 1), V.bl (tb n 2)] ++ [V.bl (tb n 3), V.bl (tb n 4)])) := upd_same
  generalize upd (upd H0 p1 (.lst [V.bl (tb n 3), V.bl (tb n 4)])) F1 (.lst ([V.bl (tb n 0), V.bl (tb n 1), V.bl (tb n 2)] ++ [V.bl (tb n 3), V.bl (tb n 4)])) = H1 at w1 h1f ⊢
  have s1 := s0.trans w1
  have e1 := er.same s1
  refine ⟨.ref F1, rfl, ⟨.ref e, rfl, is_err T e1 hn (j := 5) (.own (c 5)) (by decide) ⟨.ref e, rfl, is_err T e1 hn (j := 6) (.own (c 6)) (by decide) ⟨sz (by simp), fun p2 m2 => ?_⟩⟩⟩⟩
  have u2 := same_new (o := .lst [V.bl (tb n 5), V.bl (tb n 6)]) m2
  refine ⟨F1, p2, ([V.bl (tb n 0), V.bl (tb n 1), V.bl (tb n 2)] ++ [V.bl (tb n 3), V.bl (tb n 4)]), [V.bl (tb n 5), V.bl (tb n 6)], rfl, rfl, u2 _ _ h1f, upd_same, sz (by simp), fun F2 n2 => ?_⟩
  have w2 := u2.trans (same_new (o := .lst (([V.bl (tb n 0), V.bl (tb n 1), V.bl (tb n 2)] ++ [V.bl (tb n 3), V.bl (tb n 4)]) ++ [V.bl (tb n 5), V.bl (tb n 6)])) n2)
  have x2 := (s1.trans u2).free n2
  have h2f : upd (upd H1 p2 (.lst [V.bl (tb n 5), V.bl (tb n 6)])) F2 (.lst (([V.bl (tb n 0), V.bl (tb n 1), V.bl (tb n 2)] ++ [V.bl (tb n 3), V.bl (tb n 4)]) ++ [V.bl (tb n 5), V.bl (tb n 6)])) F2 = some (.lst (([V.bl (tb n 0), V.bl (tb n 1), V.bl (tb n 2)] ++ [V.bl (tb n 3), V.bl (tb n 4)]) ++ [V.bl (tb n 5), V.bl (tb n 6)])) := upd_same
  generalize upd (upd H1 p2 (.lst [V.bl (tb n 5), V.bl (tb n 6)])) F2 (.lst (([V.bl (tb n 0), V.bl (tb n 1), V.bl (tb n 2)] ++ [V.bl (tb n 3), V.bl (tb n 4)]) ++ [V.bl (tb n 5), V.bl (tb n 6)])) = H2 at w2 h2f ⊢
  have s2 := s1.trans w2
  have e2 := er.same s2
  refine ⟨.ref F2, rfl, ⟨.ref e, rfl, is_err T e2 hn (j := 7) (.own (c 7)) (by decide) ⟨.ref e, rfl, is_err T e2 hn (j := 8) (.own (c 8)) (by decide) ⟨sz (by simp), fun p3 m3 => ?_⟩⟩⟩⟩
  have u3 := same_new (o := .lst [V.bl (tb n 7), V.bl (tb n 8)]) m3
  refine ⟨F2, p3, (([V.bl (tb n 0), V.bl (tb n 1), V.bl (tb n 2)] ++ [V.bl (tb n 3), V.bl (tb n 4)]) ++ [V.bl (tb n 5), V.bl (tb n 6)]), [V.bl (tb n 7), V.bl (tb n 8)], rfl, rfl, u3 _ _ h2f, upd_same, sz (by simp), fun F3 n3 => ?_⟩
  have w3 := u3.trans (same_new (o := .lst ((([V.bl (tb n 0), V.bl (tb n 1), V.bl (tb n 2)] ++ [V.bl (tb n 3), V.bl (tb n 4)]) ++ [V.bl (tb n 5), V.bl (tb n 6)]) ++ [V.bl (tb n 7), V.bl (tb n 8)])) n3)
  have x3 := (s2.trans u3).free n3
  have h3f : upd (upd H2 p3 (.lst [V.bl (tb n 7), V.bl (tb n 8)])) F3 (.lst ((([V.bl (tb n 0), V.bl (tb n 1), V.bl (tb n 2)] ++ [V.bl (tb n 3), V.bl (tb n 4)]) ++ [V.bl (tb n 5), V.bl (tb n 6)]) ++ [V.bl (tb n 7), V.bl (tb n 8)])) F3 = some (.lst ((([V.bl (tb n 0), V.bl (tb n 1), V.bl (tb n 2)] ++ [V.bl (tb n 3), V.bl (tb n 4)]) ++ [V.bl (tb n 5), V.bl (tb n 6)]) ++ [V.bl (tb n 7), V.bl (tb n 8)])) := upd_same
  generalize upd (upd H2 p3 (.lst [V.bl (tb n 7), V.bl (tb n 8)])) F3 (.lst ((([V.bl (tb n 0), V.bl (tb n 1), V.bl (tb n 2)] ++ [V.bl (tb n 3), V.bl (tb n 4)]) ++ [V.bl (tb n 5), V.bl (tb n 6)]) ++ [V.bl (tb n 7), V.bl (tb n 8)])) = H3 at w3 h3f ⊢
  have s3 := s2.trans w3
  have e3 := er.same s3
  refine ⟨.ref F3, rfl, ⟨.ref e, rfl, is_err T e3 hn (j := 9) (.own (c 9)) (by decide) ⟨.ref e, rfl, is_err T e3 hn (j := 10) (.own (c 10)) (by decide) ⟨.ref e, rfl, is_err T e3 hn (j := 11) (.own (c 11)) (by decide) ⟨sz (by simp), fun p4 m4 => ?_⟩⟩⟩⟩⟩
  have u4 := same_new (o := .lst [V.bl (tb n 9), V.bl (tb n 10), V.bl (tb n 11)]) m4
  refine ⟨F3, p4, ((([V.bl (tb n 0), V.bl (tb n 1), V.bl (tb n 2)] ++ [V.bl (tb n 3), V.bl (tb n 4)]) ++ [V.bl (tb n 5), V.bl (tb n 6)]) ++ [V.bl (tb n 7), V.bl (tb n 8)]), [V.bl (tb n 9), V.bl (tb n 10), V.bl (tb n 11)], rfl, rfl, u4 _ _ h3f, upd_same, sz (by simp), fun F4 n4 => ?_⟩
  have w4 := u4.trans (same_new (o := .lst (((([V.bl (tb n 0), V.bl (tb n 1), V.bl (tb n 2)] ++ [V.bl (tb n 3), V.bl (tb n 4)]) ++ [V.bl (tb n 5), V.bl (tb n 6)]) ++ [V.bl (tb n 7), V.bl (tb n 8)]) ++ [V.bl (tb n 9), V.bl (tb n 10), V.bl (tb n 11)])) n4)
  have x4 := (s3.trans u4).free n4
  have h4f : upd (upd H3 p4 (.lst [V.bl (tb n 9), V.bl (tb n 10), V.bl (tb n 11)])) F4 (.lst (((([V.bl (tb n 0), V.bl (tb n 1), V.bl (tb n 2)] ++ [V.bl (tb n 3), V.bl (tb n 4)]) ++ [V.bl (tb n 5), V.bl (tb n 6)]) ++ [V.bl (tb n 7), V.bl (tb n 8)]) ++ [V.bl (tb n 9), V.bl (tb n 10), V.bl (tb n 11)])) F4 = some (.lst (((([V.bl (tb n 0), V.bl (tb n 1), V.bl (tb n 2)] ++ [V.bl (tb n 3), V.bl (tb n 4)]) ++ [V.bl (tb n 5), V.bl (tb n 6)]) ++ [V.bl (tb n 7), V.bl (tb n 8)]) ++ [V.bl (tb n 9), V.bl (tb n 10), V.bl (tb n 11)])) := upd_same
  generalize upd (upd H3 p4 (.lst [V.bl (tb n 9), V.bl (tb n 10), V.bl (tb n 11)])) F4 (.lst (((([V.bl (tb n 0), V.bl (tb n 1), V.bl (tb n 2)] ++ [V.bl (tb n 3), V.bl (tb n 4)]) ++ [V.bl (tb n 5), V.bl (tb n 6)]) ++ [V.bl (tb n 7), V.bl (tb n 8)]) ++ [V.bl (tb n 9), V.bl (tb n 10), V.bl (tb n 11)])) = H4 at w4 h4f ⊢
  have s4 := s3.trans w4
  have e4 := er.same s4
  refine ⟨.ref F4, rfl, ⟨.ref e, rfl, is_err T e4 hn (j := 12) (.own (c 12)) (by decide) ⟨.ref e, rfl, is_err T e4 hn (j := 13) (.own (c 13)) (by decide) ⟨.ref e, rfl, is_err T e4 hn (j := 14) (.own (c 14)) (by decide) ⟨sz (by simp), fun p5 m5 => ?_⟩⟩⟩⟩⟩
  have u5 := same_new (o := .lst [V.bl (tb n 12), V.bl (tb n 13), V.bl (tb n 14)]) m5
  refine ⟨F4, p5, (((([V.bl (tb n 0), V.bl (tb n 1), V.bl (tb n 2)] ++ [V.bl (tb n 3), V.bl (tb n 4)]) ++ [V.bl (tb n 5), V.bl (tb n 6)]) ++ [V.bl (tb n 7), V.bl (tb n 8)]) ++ [V.bl (tb n 9), V.bl (tb n 10), V.bl (tb n 11)]), [V.bl (tb n 12), V.bl (tb n 13), V.bl (tb n 14)], rfl, rfl, u5 _ _ h4f, upd_same, sz (by simp), fun F5 n5 => ?_⟩
  have w5 := u5.trans (same_new (o := .lst ((((([V.bl (tb n 0), V.bl (tb n 1), V.bl (tb n 2)] ++ [V.bl (tb n 3), V.bl (tb n 4)]) ++ [V.bl (tb n 5), V.bl (tb n 6)]) ++ [V.bl (tb n 7), V.bl (tb n 8)]) ++ [V.bl (tb n 9), V.bl (tb n 10), V.bl (tb n 11)]) ++ [V.bl (tb n 12), V.bl (tb n 13), V.bl (tb n 14)])) n5)
  have x5 := (s4.trans u5).free n5
  have h5f : upd (upd H4 p5 (.lst [V.bl (tb n 12), V.bl (tb n 13), V.bl (tb n 14)])) F5 (.lst ((((([V.bl (tb n 0), V.bl (tb n 1), V.bl (tb n 2)] ++ [V.bl (tb n 3), V.bl (tb n 4)]) ++ [V.bl (tb n 5), V.bl (tb n 6)]) ++ [V.bl (tb n 7), V.bl (tb n 8)]) ++ [V.bl (tb n 9), V.bl (tb n 10), V.bl (tb n 11)]) ++ [V.bl (tb n 12), V.bl (tb n 13), V.bl (tb n 14)])) F5 = some (.lst ((((([V.bl (tb n 0), V.bl (tb n 1), V.bl (tb n 2)] ++ [V.bl (tb n 3), V.bl (tb n 4)]) ++ [V.bl (tb n 5), V.bl (tb n 6)]) ++ [V.bl (tb n 7), V.bl (tb n 8)]) ++ [V.bl (tb n 9), V.bl (tb n 10), V.bl (tb n 11)]) ++ [V.bl (tb n 12), V.bl (tb n 13), V.bl (tb n 14)])) := upd_same
  generalize upd (upd H4 p5 (.lst [V.bl (tb n 12), V.bl (tb n 13), V.bl (tb n 14)])) F5 (.lst ((((([V.bl (tb n 0), V.bl (tb n 1), V.bl (tb n 2)] ++ [V.bl (tb n 3), V.bl (tb n 4)]) ++ [V.bl (tb n 5), V.bl (tb n 6)]) ++ [V.bl (tb n 7), V.bl (tb n 8)]) ++ [V.bl (tb n 9), V.bl (tb n 10), V.bl (tb n 11)]) ++ [V.bl (tb n 12), V.bl (tb n 13), V.bl (tb n 14)])) = H5 at w5 h5f ⊢
  have s5 := s4.trans w5
  have e5 := er.same s5
  refine ⟨.ref F5, rfl, ⟨.ref e, rfl, is_err T e5 hn (j := 15) (.own (c 15)) (by decide) ⟨.ref e, rfl, is_err T e5 hn (j := 16) (.own (c 16)) (by decide) ⟨.ref e, rfl, is_err T e5 hn (j := 17) (.own (c 17)) (by decide) ⟨sz (by simp), fun p6 m6 => ?_⟩⟩⟩⟩⟩
  have u6 := same_new (o := .lst [V.bl (tb n 15), V.bl (tb n 16), V.bl (tb n 17)]) m6
  refine ⟨F5, p6, ((((([V.bl (tb n 0), V.bl (tb n 1), V.bl (tb n 2)] ++ [V.bl (tb n 3), V.bl (tb n 4)]) ++ [V.bl (tb n 5), V.bl (tb n 6)]) ++ [V.bl (tb n 7), V.bl (tb n 8)]) ++ [V.bl (tb n 9), V.bl (tb n 10), V.bl (tb n 11)]) ++ [V.bl (tb n 12), V.bl (tb n 13), V.bl (tb n 14)]), [V.bl (tb n 15), V.bl (tb n 16), V.bl (tb n 17)], rfl, rfl, u6 _ _ h5f, upd_same, sz (by simp), fun F6 n6 => ?_⟩
  have w6 := u6.trans (same_new (o := .lst (((((([V.bl (tb n 0), V.bl (tb n 1), V.bl (tb n 2)] ++ [V.bl (tb n 3), V.bl (tb n 4)]) ++ [V.bl (tb n 5), V.bl (tb n 6)]) ++ [V.bl (tb n 7), V.bl (tb n 8)]) ++ [V.bl (tb n 9), V.bl (tb n 10), V.bl (tb n 11)]) ++ [V.bl (tb n 12), V.bl (tb n 13), V.bl (tb n 14)]) ++ [V.bl (tb n 15), V.bl (tb n 16), V.bl (tb n 17)])) n6)
  have x6 := (s5.trans u6).free n6
  have h6f : upd (upd H5 p6 (.lst [V.bl (tb n 15), V.bl (tb n 16), V.bl (tb n 17)])) F6 (.lst (((((([V.bl (tb n 0), V.bl (tb n 1), V.bl (tb n 2)] ++ [V.bl (tb n 3), V.bl (tb n 4)]) ++ [V.bl (tb n 5), V.bl (tb n 6)]) ++ [V.bl (tb n 7), V.bl (tb n 8)]) ++ [V.bl (tb n 9), V.bl (tb n 10), V.bl (tb n 11)]) ++ [V.bl (tb n 12), V.bl (tb n 13), V.bl (tb n 14)]) ++ [V.bl (tb n 15), V.bl (tb n 16), V.bl (tb n 17)])) F6 = some (.lst (((((([V.bl (tb n 0), V.bl (tb n 1), V.bl (tb n 2)] ++ [V.bl (tb n 3), V.bl (tb n 4)]) ++ [V.bl (tb n 5), V.bl (tb n 6)]) ++ [V.bl (tb n 7), V.bl (tb n 8)]) ++ [V.bl (tb n 9), V.bl (tb n 10), V.bl (tb n 11)]) ++ [V.bl (tb n 12), V.bl (tb n 13), V.bl (tb n 14)]) ++ [V.bl (tb n 15), V.bl (tb n 16), V.bl (tb n 17)])) := upd_same
  generalize upd (upd H5 p6 (.lst [V.bl (tb n 15), V.bl (tb n 16), V.bl (tb n 17)])) F6 (.lst (((((([V.bl (tb n 0), V.bl (tb n 1), V.bl (tb n 2)] ++ [V.bl (tb n 3), V.bl (tb n 4)]) ++ [V.bl (tb n 5), V.bl (tb n 6)]) ++ [V.bl (tb n 7), V.bl (tb n 8)]) ++ [V.bl (tb n 9), V.bl (tb n 10), V.bl (tb n 11)]) ++ [V.bl (tb n 12), V.bl (tb n 13), V.bl (tb n 14)]) ++ [V.bl (tb n 15), V.bl (tb n 16), V.bl (tb n 17)])) = H6 at w6 h6f ⊢
  have s6 := s5.trans w6
  have e6 := er.same s6
  refine ⟨.ref F6, rfl, ⟨.ref e, rfl, is_err T e6 hn (j := 18) (.own (c 18)) (by decide) ⟨.ref e, rfl, is_err T e6 hn (j := 19) (.own (c 19)) (by decide) ⟨.ref e, rfl, is_err T e6 hn (j := 20) (.ty "ValueError") (by decide) ⟨sz (by simp), fun p7 m7 => ?_⟩⟩⟩⟩⟩
  have u7 := same_new (o := .lst [V.bl (tb n 18), V.bl (tb n 19), V.bl (tb n 20)]) m7
  refine ⟨F6, p7, (((((([V.bl (tb n 0), V.bl (tb n 1), V.bl (tb n 2)] ++ [V.bl (tb n 3), V.bl (tb n 4)]) ++ [V.bl (tb n 5), V.bl (tb n 6)]) ++ [V.bl (tb n 7), V.bl (tb n 8)]) ++ [V.bl (tb n 9), V.bl (tb n 10), V.bl (tb n 11)]) ++ [V.bl (tb n 12), V.bl (tb n 13), V.bl (tb n 14)]) ++ [V.bl (tb n 15), V.bl (tb n 16), V.bl (tb n 17)]), [V.bl (tb n 18), V.bl (tb n 19), V.bl (tb n 20)], rfl, rfl, u7 _ _ h6f, upd_same, sz (by simp), fun F7 n7 => ?_⟩
  have w7 := u7.trans (same_new (o := .lst ((((((([V.bl (tb n 0), V.bl (tb n 1), V.bl (tb n 2)] ++ [V.bl (tb n 3), V.bl (tb n 4)]) ++ [V.bl (tb n 5), V.bl (tb n 6)]) ++ [V.bl (tb n 7), V.bl (tb n 8)]) ++ [V.bl (tb n 9), V.bl (tb n 10), V.bl (tb n 11)]) ++ [V.bl (tb n 12), V.bl (tb n 13), V.bl (tb n 14)]) ++ [V.bl (tb n 15), V.bl (tb n 16), V.bl (tb n 17)]) ++ [V.bl (tb n 18), V.bl (tb n 19), V.bl (tb n 20)])) n7)
  have x7 := (s6.trans u7).free n7
  have h7f : upd (upd H6 p7 (.lst [V.bl (tb n 18), V.bl (tb n 19), V.bl (tb n 20)])) F7 (.lst ((((((([V.bl (tb n 0), V.bl (tb n 1), V.bl (tb n 2)] ++ [V.bl (tb n 3), V.bl (tb n 4)]) ++ [V.bl (tb n 5), V.bl (tb n 6)]) ++ [V.bl (tb n 7), V.bl (tb n 8)]) ++ [V.bl (tb n 9), V.bl (tb n 10), V.bl (tb n 11)]) ++ [V.bl (tb n 12), V.bl (tb n 13), V.bl (tb n 14)]) ++ [V.bl (tb n 15), V.bl (tb n 16), V.bl (tb n 17)]) ++ [V.bl (tb n 18), V.bl (tb n 19), V.bl (tb n 20)])) F7 = some (.lst ((((((([V.bl (tb n 0), V.bl (tb n 1), V.bl (tb n 2)] ++ [V.bl (tb n 3), V.bl (tb n 4)]) ++ [V.bl (tb n 5), V.bl (tb n 6)]) ++ [V.bl (tb n 7), V.bl (tb n 8)]) ++ [V.bl (tb n 9), V.bl (tb n 10), V.bl (tb n 11)]) ++ [V.bl (tb n 12), V.bl (tb n 13), V.bl (tb n 14)]) ++ [V.bl (tb n 15), V.bl (tb n 16), V.bl (tb n 17)]) ++ [V.bl (tb n 18), V.bl (tb n 19), V.bl (tb n 20)])) := upd_same
  generalize upd (upd H6 p7 (.lst [V.bl (tb n 18), V.bl (tb n 19), V.bl (tb n 20)])) F7 (.lst ((((((([V.bl (tb n 0), V.bl (tb n 1), V.bl (tb n 2)] ++ [V.bl (tb n 3), V.bl (tb n 4)]) ++ [V.bl (tb n 5), V.bl (tb n 6)]) ++ [V.bl (tb n 7), V.bl (tb n 8)]) ++ [V.bl (tb n 9), V.bl (tb n 10), V.bl (tb n 11)]) ++ [V.bl (tb n 12), V.bl (tb n 13), V.bl (tb n 14)]) ++ [V.bl (tb n 15), V.bl (tb n 16), V.bl (tb n 17)]) ++ [V.bl (tb n 18), V.bl (tb n 19), V.bl (tb n 20)])) = H7 at w7 h7f ⊢
  have s7 := s6.trans w7
  have e7 := er.same s7
  refine ⟨.ref F7, rfl, ⟨.ref e, rfl, is_err T e7 hn (j := 21) (.ty "Exception") (by decide) ⟨.ref e, rfl, is_err T e7 hn (j := 22) (.ty "LookupError") (by decide) ⟨.ref e, rfl, is_err T e7 hn (j := 23) (.ty "TypeError") (by decide) ⟨sz (by simp), fun p8 m8 => ?_⟩⟩⟩⟩⟩
  have u8 := same_new (o := .lst [V.bl (tb n 21), V.bl (tb n 22), V.bl (tb n 23)]) m8
  refine ⟨F7, p8, ((((((([V.bl (tb n 0), V.bl (tb n 1), V.bl (tb n 2)] ++ [V.bl (tb n 3), V.bl (tb n 4)]) ++ [V.bl (tb n 5), V.bl (tb n 6)]) ++ [V.bl (tb n 7), V.bl (tb n 8)]) ++ [V.bl (tb n 9), V.bl (tb n 10), V.bl (tb n 11)]) ++ [V.bl (tb n 12), V.bl (tb n 13), V.bl (tb n 14)]) ++ [V.bl (tb n 15), V.bl (tb n 16), V.bl (tb n 17)]) ++ [V.bl (tb n 18), V.bl (tb n 19), V.bl (tb n 20)]), [V.bl (tb n 21), V.bl (tb n 22), V.bl (tb n 23)], rfl, rfl, u8 _ _ h7f, upd_same, sz (by simp), fun F8 n8 => ?_⟩
  have w8 := u8.trans (same_new (o := .lst (((((((([V.bl (tb n 0), V.bl (tb n 1), V.bl (tb n 2)] ++ [V.bl (tb n 3), V.bl (tb n 4)]) ++ [V.bl (tb n 5), V.bl (tb n 6)]) ++ [V.bl (tb n 7), V.bl (tb n 8)]) ++ [V.bl (tb n 9), V.bl (tb n 10), V.bl (tb n 11)]) ++ [V.bl (tb n 12), V.bl (tb n 13), V.bl (tb n 14)]) ++ [V.bl (tb n 15), V.bl (tb n 16), V.bl (tb n 17)]) ++ [V.bl (tb n 18), V.bl (tb n 19), V.bl (tb n 20)]) ++ [V.bl (tb n 21), V.bl (tb n 22), V.bl (tb n 23)])) n8)
  have x8 := (s7.trans u8).free n8
  have h8f : upd (upd H7 p8 (.lst [V.bl (tb n 21), V.bl (tb n 22), V.bl (tb n 23)])) F8 (.lst (((((((([V.bl (tb n 0), V.bl (tb n 1), V.bl (tb n 2)] ++ [V.bl (tb n 3), V.bl (tb n 4)]) ++ [V.bl (tb n 5), V.bl (tb n 6)]) ++ [V.bl (tb n 7), V.bl (tb n 8)]) ++ [V.bl (tb n 9), V.bl (tb n 10), V.bl (tb n 11)]) ++ [V.bl (tb n 12), V.bl (tb n 13), V.bl (tb n 14)]) ++ [V.bl (tb n 15), V.bl (tb n 16), V.bl (tb n 17)]) ++ [V.bl (tb n 18), V.bl (tb n 19), V.bl (tb n 20)]) ++ [V.bl (tb n 21), V.bl (tb n 22), V.bl (tb n 23)])) F8 = some (.lst (((((((([V.bl (tb n 0), V.bl (tb n 1), V.bl (tb n 2)] ++ [V.bl (tb n 3), V.bl (tb n 4)]) ++ [V.bl (tb n 5), V.bl (tb n 6)]) ++ [V.bl (tb n 7), V.bl (tb n 8)]) ++ [V.bl (tb n 9), V.bl (tb n 10), V.bl (tb n 11)]) ++ [V.bl (tb n 12), V.bl (tb n 13), V.bl (tb n 14)]) ++ [V.bl (tb n 15), V.bl (tb n 16), V.bl (tb n 17)]) ++ [V.bl (tb n 18), V.bl (tb n 19), V.bl (tb n 20)]) ++ [V.bl (tb n 21), V.bl (tb n 22), V.bl (tb n 23)])) := upd_same
  generalize upd (upd H7 p8 (.lst [V.bl (tb n 21), V.bl (tb n 22), V.bl (tb n 23)])) F8 (.lst (((((((([V.bl (tb n 0), V.bl (tb n 1), V.bl (tb n 2)] ++ [V.bl (tb n 3), V.bl (tb n 4)]) ++ [V.bl (tb n 5), V.bl (tb n 6)]) ++ [V.bl (tb n 7), V.bl (tb n 8)]) ++ [V.bl (tb n 9), V.bl (tb n 10), V.bl (tb n 11)]) ++ [V.bl (tb n 12), V.bl (tb n 13), V.bl (tb n 14)]) ++ [V.bl (tb n 15), V.bl (tb n 16), V.bl (tb n 17)]) ++ [V.bl (tb n 18), V.bl (tb n 19), V.bl (tb n 20)]) ++ [V.bl (tb n 21), V.bl (tb n 22), V.bl (tb n 23)])) = H8 at w8 h8f ⊢
  have s8 := s7.trans w8
  have e8 := er.same s8
  refine ⟨.ref F8, rfl, ⟨.ref e, rfl, is_err T e8 hn (j := 24) (.ty "ArithmeticError") (by decide) ⟨.ref e, rfl, is_err T e8 hn (j := 25) (.ty "RuntimeError") (by decide) ⟨sz (by simp), fun p9 m9 => ?_⟩⟩⟩⟩
  have u9 := same_new (o := .lst [V.bl (tb n 24), V.bl (tb n 25)]) m9
  refine ⟨F8, p9, (((((((([V.bl (tb n 0), V.bl (tb n 1), V.bl (tb n 2)] ++ [V.bl (tb n 3), V.bl (tb n 4)]) ++ [V.bl (tb n 5), V.bl (tb n 6)]) ++ [V.bl (tb n 7), V.bl (tb n 8)]) ++ [V.bl (tb n 9), V.bl (tb n 10), V.bl (tb n 11)]) ++ [V.bl (tb n 12), V.bl (tb n 13), V.bl (tb n 14)]) ++ [V.bl (tb n 15), V.bl (tb n 16), V.bl (tb n 17)]) ++ [V.bl (tb n 18), V.bl (tb n 19), V.bl (tb n 20)]) ++ [V.bl (tb n 21), V.bl (tb n 22), V.bl (tb n 23)]), [V.bl (tb n 24), V.bl (tb n 25)], rfl, rfl, u9 _ _ h8f, upd_same, sz (by simp), fun F9 n9 => ?_⟩
  have w9 := u9.trans (same_new (o := .lst ((((((((([V.bl (tb n 0), V.bl (tb n 1), V.bl (tb n 2)] ++ [V.bl (tb n 3), V.bl (tb n 4)]) ++ [V.bl (tb n 5), V.bl (tb n 6)]) ++ [V.bl (tb n 7), V.bl (tb n 8)]) ++ [V.bl (tb n 9), V.bl (tb n 10), V.bl (tb n 11)]) ++ [V.bl (tb n 12), V.bl (tb n 13), V.bl (tb n 14)]) ++ [V.bl (tb n 15), V.bl (tb n 16), V.bl (tb n 17)]) ++ [V.bl (tb n 18), V.bl (tb n 19), V.bl (tb n 20)]) ++ [V.bl (tb n 21), V.bl (tb n 22), V.bl (tb n 23)]) ++ [V.bl (tb n 24), V.bl (tb n 25)])) n9)
  have x9 := (s8.trans u9).free n9
  have h9f : upd (upd H8 p9 (.lst [V.bl (tb n 24), V.bl (tb n 25)])) F9 (.lst ((((((((([V.bl (tb n 0), V.bl (tb n 1), V.bl (tb n 2)] ++ [V.bl (tb n 3), V.bl (tb n 4)]) ++ [V.bl (tb n 5), V.bl (tb n 6)]) ++ [V.bl (tb n 7), V.bl (tb n 8)]) ++ [V.bl (tb n 9), V.bl (tb n 10), V.bl (tb n 11)]) ++ [V.bl (tb n 12), V.bl (tb n 13), V.bl (tb n 14)]) ++ [V.bl (tb n 15), V.bl (tb n 16), V.bl (tb n 17)]) ++ [V.bl (tb n 18), V.bl (tb n 19), V.bl (tb n 20)]) ++ [V.bl (tb n 21), V.bl (tb n 22), V.bl (tb n 23)]) ++ [V.bl (tb n 24), V.bl (tb n 25)])) F9 = some (.lst ((((((((([V.bl (tb n 0), V.bl (tb n 1), V.bl (tb n 2)] ++ [V.bl (tb n 3), V.bl (tb n 4)]) ++ [V.bl (tb n 5), V.bl (tb n 6)]) ++ [V.bl (tb n 7), V.bl (tb n 8)]) ++ [V.bl (tb n 9), V.bl (tb n 10), V.bl (tb n 11)]) ++ [V.bl (tb n 12), V.bl (tb n 13), V.bl (tb n 14)]) ++ [V.bl (tb n 15), V.bl (tb n 16), V.bl (tb n 17)]) ++ [V.bl (tb n 18), V.bl (tb n 19), V.bl (tb n 20)]) ++ [V.bl (tb n 21), V.bl (tb n 22), V.bl (tb n 23)]) ++ [V.bl (tb n 24), V.bl (tb n 25)])) := upd_same
  generalize upd (upd H8 p9 (.lst [V.bl (tb n 24), V.bl (tb n 25)])) F9 (.lst ((((((((([V.bl (tb n 0), V.bl (tb n 1), V.bl (tb n 2)] ++ [V.bl (tb n 3), V.bl (tb n 4)]) ++ [V.bl (tb n 5), V.bl (tb n 6)]) ++ [V.bl (tb n 7), V.bl (tb n 8)]) ++ [V.bl (tb n 9), V.bl (tb n 10), V.bl (tb n 11)]) ++ [V.bl (tb n 12), V.bl (tb n 13), V.bl (tb n 14)]) ++ [V.bl (tb n 15), V.bl (tb n 16), V.bl (tb n 17)]) ++ [V.bl (tb n 18), V.bl (tb n 19), V.bl (tb n 20)]) ++ [V.bl (tb n 21), V.bl (tb n 22), V.bl (tb n 23)]) ++ [V.bl (tb n 24), V.bl (tb n 25)])) = H9 at w9 h9f ⊢
  have s9 := s8.trans w9
  have e9 := er.same s9
  refine ⟨.ref F9, rfl, ⟨.ref e, rfl, is_err T e9 hn (j := 26) (.ty "AttributeError") (by decide) ⟨sz (by simp), fun p10 m10 => ?_⟩⟩⟩
  have u10 := same_new (o := .lst [V.bl (tb n 26)]) m10
  refine ⟨F9, p10, ((((((((([V.bl (tb n 0), V.bl (tb n 1), V.bl (tb n 2)] ++ [V.bl (tb n 3), V.bl (tb n 4)]) ++ [V.bl (tb n 5), V.bl (tb n 6)]) ++ [V.bl (tb n 7), V.bl (tb n 8)]) ++ [V.bl (tb n 9), V.bl (tb n 10), V.bl (tb n 11)]) ++ [V.bl (tb n 12), V.bl (tb n 13), V.bl (tb n 14)]) ++ [V.bl (tb n 15), V.bl (tb n 16), V.bl (tb n 17)]) ++ [V.bl (tb n 18), V.bl (tb n 19), V.bl (tb n 20)]) ++ [V.bl (tb n 21), V.bl (tb n 22), V.bl (tb n 23)]) ++ [V.bl (tb n 24), V.bl (tb n 25)]), [V.bl (tb n 26)], rfl, rfl, u10 _ _ h9f, upd_same, sz (by simp), fun F10 n10 => ?_⟩
  have w10 := u10.trans (same_new (o := .lst (((((((((([V.bl (tb n 0), V.bl (tb n 1), V.bl (tb n 2)] ++ [V.bl (tb n 3), V.bl (tb n 4)]) ++ [V.bl (tb n 5), V.bl (tb n 6)]) ++ [V.bl (tb n 7), V.bl (tb n 8)]) ++ [V.bl (tb n 9), V.bl (tb n 10), V.bl (tb n 11)]) ++ [V.bl (tb n 12), V.bl (tb n 13), V.bl (tb n 14)]) ++ [V.bl (tb n 15), V.bl (tb n 16), V.bl (tb n 17)]) ++ [V.bl (tb n 18), V.bl (tb n 19), V.bl (tb n 20)]) ++ [V.bl (tb n 21), V.bl (tb n 22), V.bl (tb n 23)]) ++ [V.bl (tb n 24), V.bl (tb n 25)]) ++ [V.bl (tb n 26)])) n10)
  have x10 := (s9.trans u10).free n10
  have h10f : upd (upd H9 p10 (.lst [V.bl (tb n 26)])) F10 (.lst (((((((((([V.bl (tb n 0), V.bl (tb n 1), V.bl (tb n 2)] ++ [V.bl (tb n 3), V.bl (tb n 4)]) ++ [V.bl (tb n 5), V.bl (tb n 6)]) ++ [V.bl (tb n 7), V.bl (tb n 8)]) ++ [V.bl (tb n 9), V.bl (tb n 10), V.bl (tb n 11)]) ++ [V.bl (tb n 12), V.bl (tb n 13), V.bl (tb n 14)]) ++ [V.bl (tb n 15), V.bl (tb n 16), V.bl (tb n 17)]) ++ [V.bl (tb n 18), V.bl (tb n 19), V.bl (tb n 20)]) ++ [V.bl (tb n 21), V.bl (tb n 22), V.bl (tb n 23)]) ++ [V.bl (tb n 24), V.bl (tb n 25)]) ++ [V.bl (tb n 26)])) F10 = some (.lst (((((((((([V.bl (tb n 0), V.bl (tb n 1), V.bl (tb n 2)] ++ [V.bl (tb n 3), V.bl (tb n 4)]) ++ [V.bl (tb n 5), V.bl (tb n 6)]) ++ [V.bl (tb n 7), V.bl (tb n 8)]) ++ [V.bl (tb n 9), V.bl (tb n 10), V.bl (tb n 11)]) ++ [V.bl (tb n 12), V.bl (tb n 13), V.bl (tb n 14)]) ++ [V.bl (tb n 15), V.bl (tb n 16), V.bl (tb n 17)]) ++ [V.bl (tb n 18), V.bl (tb n 19), V.bl (tb n 20)]) ++ [V.bl (tb n 21), V.bl (tb n 22), V.bl (tb n 23)]) ++ [V.bl (tb n 24), V.bl (tb n 25)]) ++ [V.bl (tb n 26)])) := upd_same
  generalize upd (upd H9 p10 (.lst [V.bl (tb n 26)])) F10 (.lst (((((((((([V.bl (tb n 0), V.bl (tb n 1), V.bl (tb n 2)] ++ [V.bl (tb n 3), V.bl (tb n 4)]) ++ [V.bl (tb n 5), V.bl (tb n 6)]) ++ [V.bl (tb n 7), V.bl (tb n 8)]) ++ [V.bl (tb n 9), V.bl (tb n 10), V.bl (tb n 11)]) ++ [V.bl (tb n 12), V.bl (tb n 13), V.bl (tb n 14)]) ++ [V.bl (tb n 15), V.bl (tb n 16), V.bl (tb n 17)]) ++ [V.bl (tb n 18), V.bl (tb n 19), V.bl (tb n 20)]) ++ [V.bl (tb n 21), V.bl (tb n 22), V.bl (tb n 23)]) ++ [V.bl (tb n 24), V.bl (tb n 25)]) ++ [V.bl (tb n 26)])) = H10 at w10 h10f ⊢
  have s10 := s9.trans w10
  exact q F10 H10 s10 x10 h10f
end
end K01

set_option Elab.async false
set_option linter.all false
set_option maxRecDepth 100000
set_option maxHeartbeats 8000000
local macro_rules | `(tactic| walk_at "rd") => `(tactic| dsimp only [Evl.tCut, L2.tSeq, L2.tNext, L2.tRet, L2.tRetN, L2.tAsg, L2.gName, L2.tIfS, L2.tDrop, L2.tCons, L2.tNil, L2.tC, L2.tVar, L2.tCB, L2.tAndV, L2.tOrV, L2.tNotV, L2.tB, L2.tTest, L2.tOp, L2.tUn, L2.tNot, L2.tAnd, L2.tOr, L2.tIf, L2.tCall, L2.tTup, L2.tLst, L2.tNotT, L2.tYes, L2.gTup, L2.gCons, L2.gNil, L2.gSub, L2.tBM0, L2.tBM, L2.tWhile, L2.tFor, L2.iRng1, L2.iRng2, L2.tAugS, Tw.iEnumT, L2.tCKw, L2.tAug, L2.ipI, RT.iRevA, L2.tPar, L2.tPar3, L2.tSl, L2.tNoPart, L2.tPart, Tw.tRevT, Tw.tMk, Tw.tGet])
namespace K01
open PySem PySem.Spec PyProof.Rows L2 Tw
/-- the list of truths as a datum -/
def trD (n : Nat) : PyData := .list ((List.range 27).map fun j => .bool (tb n j))
theorem da_tr {a p : Addr} {H : Hp} {n : Nat} (w : p ≠ a) (h : H p = some (.lst (tr n))) : Da a H (.ref p) (trD n) := by
  refine .lst w h ?_
  unfold tr
  generalize List.range 27 = l
  induction l with
  | nil => exact .nil
  | cons j l ih => exact .cons (.bl _) ih
theorem ls_tr (n : Nat) : Ls B2 28 (trD n) := by
  have key : ∀ l : List Nat, lf1 B2 (l.map fun j => PyData.bool (tb n j)) = true ∧ nd1 (l.map fun j => PyData.bool (tb n j)) = l.length := fun l => by
    induction l with
    | nil => exact ⟨rfl, rfl⟩
    | cons j l ih => exact ⟨ih.1, by show 1 + _ = _; rw [ih.2]; simp; omega⟩
  have := key (List.range 27)
  exact ⟨this.1, by show nd1 _ + 1 ≤ 28; rw [this.2]; decide⟩
theorem dep_tr (n : Nat) : dep (trD n) ≤ 40 := by
  unfold trD
  rw [dep]
  refine Nat.succ_le_succ (dep1_le fun d hd => ?_)
  obtain ⟨j, _, rfl⟩ := List.mem_map.mp hd
  exact Nat.zero_le _
def spMade (c : Nat → Addr) : Sp := fun vs H Q _ => ∃ (n : Nat) (v : V) (e a : Addr) (d : PyData), vs = [.int (n : Int), v, .ref e] ∧ n < 20 ∧ H a ≠ none ∧ Da a H v d ∧ Th d ∧ Er c H e n v ∧ ∀ H', Same H H' → Q (.bl true) H'
section
variable {P : Program} {w : World} {K : PySem.W.Frag} {mg : Str → Option Value} {base : Heap} {c : Nat → Addr}
theorem scMade : FnScope ["_law_at", "_law_thing", "_law_error", "_law_each"] ["_law_at", "_law_thing", "_law_error"] (defScope sMade) := ⟨rfl, rfl, rfl, by decide +kernel, rfl, by decide +kernel, by decide +kernel⟩
theorem fld_of {n : Nat} {H : Hp} {e a : Addr} {v : V} {d : PyData} {Q : VK} {f : Str} (T : Txt K mg c) (hn : n < 18) (hf : fld n = f) (hd : Da a H v d) (hth : Th d) (er : Er c H e n v) (q : Q (.bl true) H) :
    ∃ (e' C : Addr) (fs : List (Str × V)) (u : V), V.ref e = .ref e' ∧ XgC K C f ∧ Xo H e' C fs ∧ fs.lookup f = some u ∧ rShowD [u] H (fun x H1 => ∃ u', some (some v) = some (some u') ∧ rShowD [u'] H1 fun y H2 => rEq x y H2 Q) := by
  subst hf
  rcases er with ⟨_, h⟩ | ⟨h, _⟩
  · refine ⟨e, c n, _, v, rfl, T.xg n hn, h, by simp [List.lookup], a, v, d, _, rfl, hd, hth.2, by decide, Nat.le_trans hth.1 (by decide), v, rfl, a, v, d, _, rfl, hd, hth.2, by decide, Nat.le_trans hth.1 (by decide), rfl, ?_⟩
    rw [decide_eq_true rfl]
    exact q
  · omega
theorem ok_made (D : Def K mg "_law_is_made" sMade ["_law_at", "_law_thing", "_law_error"]) (nb : Nb mg) (T : Txt K mg c) (cT : Cal P w K mg base "_law_truths" 1 ["_law_error"] (spTruths c)) : CalG P w K mg base "_law_is_made" 2 ["_law_at", "_law_thing", "_law_error"] (spMade c) := by
  refine D.okG scMade (fun vs H Q E h => ?_) (fun f cdv A out s H vs Q E hq hr h => ?_)
  · obtain ⟨n, v, e, a, d, rfl, _⟩ := h; rfl
  obtain ⟨n, v, e, a, d, rfl, hn, ha, hd, hth, er, q⟩ := h
  have hu : (A.deeper (envOfC "_law_is_made" (defScope sMade) s.heap.objs.size f cdv)).units + 70 < cLine := by have := hr.un; omega
  refine ⟨_, pss_cons (ps_if (pt_cmpR op_ne (pe_callB (id := "repr") (r := rShowD) (call_showD hq hu) (by rfl) nb.repr (by decide +kernel) (pa_cons (pe_cal cT hr (by decide) (by rfl) (pa_cons (pv 2) pa_nil)) pa_nil))
      (pe_callB (id := "repr") (r := rShowD) (call_showD hq hu) (by rfl) nb.repr (by decide +kernel) (pa_cons (pe_lc (own := [("_law_each", 3)]) (g := gName 3) (tt := tYes) rfl scMade.nd (pi_range1 (by rfl) nb.rng (pa_cons pe_int pa_nil)) (blkOk_by (N := ["_law_at", "_law_thing", "_law_error", "_law_each"]) (sc := defScope sMade) (by decide +kernel))
        (fun _ _ _ _ _ => pg_name (i := 3) scMade.nd rfl (Or.inl rfl)) (fun _ _ _ _ _ => pts_nil) (fun _ _ _ _ _ => pe_or (pe_cmpR op_eq (pv 3) (pv 0) (nomark _)) (pe_one (pe_chain op_lt op_lt pe_int (pv 3) pe_int)))) pa_nil)) (nomark _)) (pss_one (ps_ret pe_bl)) pss_nil)
    (pss_cons (ps_if (pt_cmpR op_lt (pv 0) pe_int (nomark _)) (pss_one (ps_ret (pe_cmpR op_eq (pe_callB (id := "repr") (r := rShowD) (call_showD hq hu) (by rfl) nb.repr (by decide +kernel) (pa_cons (pe_get (f := "given") (pv 2)) pa_nil)) (pe_callB (id := "repr") (r := rShowD) (call_showD hq hu) (by rfl) nb.repr (by decide +kernel) (pa_cons (pv 1) pa_nil)) (nomark _)))) pss_nil)
    (pss_cons (ps_if (pt_cmpR op_lt (pv 0) pe_int (nomark _)) (pss_one (ps_ret (pe_cmpR op_eq (pe_callB (id := "repr") (r := rShowD) (call_showD hq hu) (by rfl) nb.repr (by decide +kernel) (pa_cons (pe_get (f := "index") (pv 2)) pa_nil)) (pe_callB (id := "repr") (r := rShowD) (call_showD hq hu) (by rfl) nb.repr (by decide +kernel) (pa_cons (pv 1) pa_nil)) (nomark _)))) pss_nil)
    (pss_one (ps_ret (pe_or (pe_cmpR op_gt (pv 0) pe_int (nomark _)) (pe_one (pe_cmpR op_eq (pe_callB (id := "repr") (r := rShowD) (call_showD hq hu) (by rfl) nb.repr (by decide +kernel) (pa_cons (pe_get (f := "spot") (pv 2)) pa_nil)) (pe_callB (id := "repr") (r := rShowD) (call_showD hq hu) (by rfl) nb.repr (by decide +kernel) (pa_cons (pv 1) pa_nil)) (nomark _)))))))), ?_⟩
  walk_at "rd"
  refine ⟨.ref e, rfl, e, n, v, rfl, hn, er, fun p H1 s1 np h1 => ?_⟩
  refine ⟨a, _, trD n, 28, rfl, da_tr (new_ne ha np) h1, ls_tr n, by decide, dep_tr n, ?_⟩
  refine lc_rng (n := 27) (fun j => V.bl (tb n j)) (fun R hR => ⟨27, rfl, by decide, by decide, hR⟩) (by decide) (wipe1 _ 3) (fun j H2 hj s2 R kR => ?_) (fun p2 H2 s2 np2 h2 => ?_)
  · refine ⟨.int (0 + (j : Int)), rfl, .int n, rfl, rfl, decide (V.int (0 + (j : Int)) = V.int (n : Int)), rfl, ite2 (fun z => ?_) (fun z => ?_)⟩
    · have z := veq z
      have e1 : tb n j = true := by
        unfold tb
        have : j = n := by omega
        rw [this]; simp
      rw [← e1]
      exact kR H2 (Same.refl H2)
    · have z := vne z
      have e0 : (j == n) = false := by
        have : j ≠ n := by omega
        simpa using this
      refine ⟨.int (0 + (j : Int)), rfl, _, _, rfl, rfl, _, rfl, ite2 (fun y => ?_) (fun y => ?_)⟩
      · have y := of_decide_eq_true y
        refine ⟨_, _, rfl, rfl, ?_⟩
        have e1 : decide ((0 : Int) + (j : Int) < 22) = tb n j := by
          unfold tb
          rw [e0, decide_eq_true (by omega : 18 < j), Bool.false_or, Bool.true_and]
          exact decide_eq_decide.mpr (by omega)
        show R (V.bl (decide ((0 : Int) + (j : Int) < 22))) H2
        rw [e1]
        exact kR H2 (Same.refl H2)
      · have y := dlt y
        have e1 : tb n j = false := by
          unfold tb
          rw [e0, decide_eq_false (by omega : ¬ 18 < j)]
          rfl
        rw [← e1]
        exact kR H2 (Same.refl H2)
  have ha1 : H1 a ≠ none := same_some s1 ha
  refine ⟨a, _, trD n, 28, rfl, da_tr (new_ne ha1 np2) h2, ls_tr n, by decide, dep_tr n, rfl, _, rfl, ?_⟩
  have hs := s1.trans s2
  have q := q H2 hs
  have hd2 := hd.same hs
  have er2 := er.same hs
  rw [decide_eq_true rfl]
  refine iteF ⟨.int n, rfl, _, _, rfl, rfl, _, rfl, ite2 (fun z => ?_) (fun z => ?_)⟩
  · have z := of_decide_eq_true z
    exact ⟨.ref e, rfl, fld_of T (by omega) (if_pos (by omega)) hd2 hth er2 q⟩
  · have z := dlt z
    refine ⟨.int n, rfl, _, _, rfl, rfl, _, rfl, ite2 (fun y => ?_) (fun y => ?_)⟩
    · have y := of_decide_eq_true y
      refine ⟨.ref e, rfl, fld_of T (by omega) ?_ hd2 hth er2 q⟩
      unfold fld
      rw [if_neg (by omega), if_pos (by omega)]
    · have y := dlt y
      refine ⟨.int n, rfl, _, _, rfl, rfl, _, rfl, ite2 (fun x => ?_) (fun x => ?_)⟩
      · exact q
      · have x := dlt x
        refine ⟨.ref e, rfl, fld_of T (by omega) ?_ hd2 hth er2 q⟩
        unfold fld
        rw [if_neg (by omega), if_neg (by omega)]
end
end K01

set_option Elab.async false
set_option linter.all false
set_option maxRecDepth 100000
set_option maxHeartbeats 8000000
local macro_rules | `(tactic| walk_at "rd") => `(tactic| dsimp only [Evl.tCut, L2.tSeq, L2.tNext, L2.tRet, L2.tRetN, L2.tAsg, L2.gName, L2.tIfS, L2.tDrop, L2.tCons, L2.tNil, L2.tC, L2.tVar, L2.tCB, L2.tAndV, L2.tOrV, L2.tNotV, L2.tB, L2.tTest, L2.tOp, L2.tUn, L2.tNot, L2.tAnd, L2.tOr, L2.tIf, L2.tCall, L2.tTup, L2.tLst, L2.tNotT, L2.tYes, L2.gTup, L2.gCons, L2.gNil, L2.gSub, L2.tBM0, L2.tBM, L2.tWhile, L2.tFor, L2.iRng1, L2.iRng2, L2.tAugS, Tw.iEnumT, L2.tCKw, L2.tAug, L2.ipI, RT.iRevA, L2.tPar, L2.tPar3, L2.tSl, L2.tNoPart, L2.tPart, Tw.tRevT, Tw.tMk, Tw.tGet])
namespace K01
open PySem PySem.Spec PyProof.Rows L2 Tw
def spRight : Sp := fun vs H Q _ => ∃ a, vs = [.ref a] ∧ We a H ∧ ∀ H', Kp a H H' → Q (.bl true) H'
theorem da_pr {a : Addr} {H : Hp} {v : V} {x y : Int} (w : We a H) (h : Pr H v x y) : Da a H v (.tuple [.int x, .int y]) := by
  obtain ⟨p, rfl, e⟩ := h
  exact .tup (We.nt w e) e (.cons (.int _) (.cons (.int _) .nil))
theorem all_true (m : Nat) : ((List.range m).map (fun _ => true)).all id = true := by
  rw [List.all_eq_true]
  intro b hb
  obtain ⟨_, _, rfl⟩ := List.mem_map.mp hb
  rfl
section
variable {P : Program} {w : World} {K : PySem.W.Frag} {mg : Str → Option Value} {base : Heap} {c : Nat → Addr}
theorem scRight : FnScope ["_law_well_here", "_law_thing", "_law_at"] ["_law_well_here"] (defScope sRight) := ⟨rfl, rfl, rfl, by decide +kernel, rfl, by decide +kernel, by decide +kernel⟩
theorem ok_right (D : Def K mg "_law_right" sRight ["_law_well_here"]) (nb : Nb mg) (cO : Cal P w K mg base "_law_odd" 3 ["_law_well_here"] spOdd) (cP : Cal P w K mg base "_law_part" 3 ["_law_well_here"] spPart)
    (cS : Cal P w K mg base "_law_spoilt" 13 ["_law_well_here", "_law_thing"] spSpoilt) (cE : Cal P w K mg base "_law_by_place" 3 ["_law_spot", "_law_thing"] (spEr c 0 20)) (cN : Cal P w K mg base "_law_by_name" 3 ["_law_spot", "_law_thing"] (spEr c 0 18))
    (cM : CalG P w K mg base "_law_is_made" 2 ["_law_at", "_law_thing", "_law_error"] (spMade c)) : CalG P w K mg base "_law_right" 14 ["_law_well_here"] spRight := by
  refine D.okG scRight (fun vs H Q E h => ?_) (fun f cdv A out s H vs Q E hq hr h => ?_)
  · obtain ⟨a, rfl, _⟩ := h; rfl
  obtain ⟨a, rfl, hw, q⟩ := h
  refine ⟨_, pss_cons (ps_set (i := 1) scRight.nd rfl (Or.inr rfl) (pe_cal cS hr (by decide) (by rfl) (pa_cons (pv 0) (pa_cons (pe_tup (pa_cons (pe_cal cO hr (by decide) (by rfl) (pa_cons (pv 0) pa_nil)) (pa_cons (pe_cal cP hr (by decide) (by rfl) (pa_cons (pv 0) pa_nil)) (pa_cons (pe_cal cO hr (by decide) (by rfl) (pa_cons (pv 0) pa_nil)) pa_nil)))) pa_nil))))
    (pss_cons (ps_if (pt_not (pt_val (pe_callB (id := "all") (r := rAll K) (cr_all rfl) (by rfl) nb.all (by decide +kernel) (pa_cons (pe_lc (own := [("_law_at", 2)]) (g := gName 2) (tt := tYes) rfl scRight.nd (pi_range1 (by rfl) nb.rng (pa_cons pe_int pa_nil)) (blkOk_by (N := ["_law_well_here", "_law_thing", "_law_at"]) (sc := defScope sRight) (by decide +kernel))
        (fun _ _ _ _ _ => pg_name (i := 2) scRight.nd rfl (Or.inl rfl)) (fun _ _ _ _ _ => pts_nil) (fun _ _ _ _ _ => pe_calG cM hq hr (by decide) (by rfl) (pa_cons (pv 2) (pa_cons (pv 1) (pa_cons (pe_cal cE hr (by decide) (by rfl) (pa_cons (pv 2) (pa_cons (pv 1) pa_nil))) pa_nil))))) pa_nil)))) (pss_one (ps_ret pe_bl)) pss_nil)
    (pss_one (ps_ret (pe_callB (id := "all") (r := rAll K) (cr_all rfl) (by rfl) nb.all (by decide +kernel) (pa_cons (pe_lc (own := [("_law_at", 2)]) (g := gName 2) (tt := tYes) rfl scRight.nd (pi_range1 (by rfl) nb.rng (pa_cons pe_int pa_nil)) (blkOk_by (N := ["_law_well_here", "_law_thing", "_law_at"]) (sc := defScope sRight) (by decide +kernel))
        (fun _ _ _ _ _ => pg_name (i := 2) scRight.nd rfl (Or.inl rfl)) (fun _ _ _ _ _ => pts_nil) (fun _ _ _ _ _ => pe_calG cM hq hr (by decide) (by rfl) (pa_cons (pv 2) (pa_cons (pv 1) (pa_cons (pe_cal cN hr (by decide) (by rfl) (pa_cons (pv 2) (pa_cons (pv 1) pa_nil))) pa_nil))))) pa_nil))))), ?_⟩
  walk_at "rd"
  refine ⟨.ref a, rfl, .ref a, rfl, a, rfl, hw, fun x1 d1 H1 k1 w1 e1 t1 l1 => ?_⟩
  refine ⟨.ref a, rfl, a, rfl, w1, fun x2 n m H2 k2 w2 e2 sp => ?_⟩
  refine ⟨.ref a, rfl, a, rfl, w2, fun x3 d3 H3 k3 w3 e3 t3 l3 => ?_⟩
  have e2 := da_pr w2 e2
  have dd := DaAll.cons ((e1.kp k2).kp k3) (.cons (e2.kp k3) (.cons e3 .nil))
  refine ⟨sz (by simp), fun p np => ?_⟩
  obtain ⟨s4, d4⟩ := newT w3.some dd np
  generalize upd H3 p _ = H4 at s4 d4 ⊢
  have k4 := ((k1.trans k2).trans k3).trans (Kp.of s4)
  have w4 := w3.to s4
  have hp : Ls B1 8 (.tuple [.int n, .int m]) := by
    have h1 := sp.1
    have h2 := sp.2.1
    have h3 := sp.2.2.1
    have h4 : n.natAbs ≤ B1 := Nat.le_trans h1 (by decide)
    have h5 : m.natAbs ≤ B1 := Nat.le_trans (show m.natAbs ≤ 7 by omega) (by decide)
    refine ⟨?_, by show 1 + (1 + 0) + 1 ≤ 8; decide⟩
    show (decide (n.natAbs ≤ B1) && (decide (m.natAbs ≤ B1) && true)) = true
    rw [decide_eq_true h4, decide_eq_true h5]
    rfl
  have st : Sm 6 10 (.tuple [d1, .tuple [.int n, .int m], d3]) := by
    refine (sm_tup (n := 5) (m := 10) (by simp) fun d hd => ?_)
    simp only [List.mem_cons, List.not_mem_nil, or_false] at hd
    rcases hd with rfl | rfl | rfl
    · exact t1.up (by decide) (by decide)
    · refine (sm_tup (n := 0) (m := 10) (by simp) fun d hd => ?_).up (by decide) (by decide)
      simp only [List.mem_cons, List.not_mem_nil, or_false] at hd
      rcases hd with rfl | rfl <;> exact sm_int _ _ _
    · exact t3.up (by decide) (by decide)
  have lt : Ls B1 60 (.tuple [d1, .tuple [.int n, .int m], d3]) := by
    refine ⟨?_, ?_⟩
    · show (lf B1 d1 && (lf B1 (.tuple [.int n, .int m]) && (lf B1 d3 && true))) = true
      rw [l1.1, hp.1, l3.1]
      rfl
    · have a1 := l1.2
      have a2 := hp.2
      have a3 := l3.2
      show nd d1 + (nd (.tuple [.int n, .int m]) + (nd d3 + 0)) + 1 ≤ 60
      omega
  refine ⟨a, .ref p, _, rfl, w4, d4, st, lt, fun v d H5 k5 w5 e5 th => ?_⟩
  have q := fun H' (k : Kp a H5 H') => q H' ((k4.trans k5).trans k)
  refine lc_rng (n := 20) (fun _ => V.bl true) (fun R hR => ⟨20, rfl, by decide, by decide, hR⟩) (by decide) (wipe1 _ 2) (fun i H6 hi s6 R kR => ?_) (fun L H6 s6 nL hL => ?_)
  · refine ⟨.int (0 + (i : Int)), rfl, v, rfl, .int (0 + (i : Int)), rfl, v, rfl, i, v, by rw [Int.zero_add]; rfl, by omega, hi, fun e H7 s7 er => ?_⟩
    exact ⟨i, v, e, a, d, by rw [Int.zero_add]; rfl, hi, (w5.to (s6.trans s7)).some, e5.same (s6.trans s7), th, er, fun H8 s8 => kR H8 (s7.trans s8)⟩
  · refine ⟨L, (List.range 20).map (fun _ => true), rfl, SqL.of (by rw [List.map_map]; exact hL), _, rfl, ?_⟩
    rw [all_true]
    refine iteF ?_
    refine lc_rng (n := 18) (fun _ => V.bl true) (fun R hR => ⟨18, rfl, by decide, by decide, hR⟩) (by decide) (wipe1 _ 2) (fun i H7 hi s7 R kR => ?_) (fun L2 H7 s7 nL2 hL2 => ?_)
    · have s67 := s6.trans s7
      refine ⟨.int (0 + (i : Int)), rfl, v, rfl, .int (0 + (i : Int)), rfl, v, rfl, i, v, by rw [Int.zero_add]; rfl, by omega, hi, fun e H8 s8 er => ?_⟩
      exact ⟨i, v, e, a, d, by rw [Int.zero_add]; rfl, by omega, (w5.to (s67.trans s8)).some, e5.same (s67.trans s8), th, er, fun H9 s9 => kR H9 (s8.trans s9)⟩
    · refine ⟨L2, (List.range 18).map (fun _ => true), rfl, SqL.of (by rw [List.map_map]; exact hL2), ?_⟩
      rw [all_true]
      exact q H7 (Kp.of (s6.trans s7))
end
end K01

set_option Elab.async false
set_option linter.all false
set_option maxRecDepth 100000
set_option maxHeartbeats 4000000
local macro_rules | `(tactic| walk_at "rd") => `(tactic| dsimp only [Evl.tCut, L2.tSeq, L2.tNext, L2.tRet, L2.tRetN, L2.tAsg, L2.gName, L2.tIfS, L2.tDrop, L2.tCons, L2.tNil, L2.tC, L2.tVar, L2.tCB, L2.tAndV, L2.tOrV, L2.tNotV, L2.tB, L2.tTest, L2.tOp, L2.tUn, L2.tNot, L2.tAnd, L2.tOr, L2.tIf, L2.tCall, L2.tTup, L2.tLst, L2.tNotT, L2.tYes, L2.gTup, L2.gCons, L2.gNil, L2.gSub, L2.tBM0, L2.tBM, L2.tWhile, L2.tFor, L2.iRng1, L2.iRng2, L2.tAugS, Tw.iEnumT, L2.tCKw, L2.tAug, L2.ipI, RT.iRevA, L2.tPar, L2.tPar3, L2.tSl, L2.tNoPart, L2.tPart, Tw.tRevT])
namespace K01
open PySem PySem.Spec PyProof.Rows L2 Tw
section
variable {P : Program} {w : World} {K : PySem.W.Frag} {mg : Str → Option Value} {base : Heap}
theorem scLaw : FnScope ["_law_script", "_law_at"] ["_law_script"] (defScope sLaw) := ⟨rfl, rfl, rfl, by decide +kernel, rfl, by decide +kernel, by decide +kernel⟩
theorem ok_law (D : Def K mg "law" sLaw ["_law_script"]) (nb : Nb mg) (c1 : Cal P w K mg base "_law_well" 1 ["_law_script", "_law_at"] (spWell K)) (c2 : CalG P w K mg base "_law_right" 14 ["_law_well_here"] spRight) :
    CalG P w K mg base "law" 15 ["_law_script"] (spLaw K) := by
  refine D.okG scLaw (fun vs H Q E h => ?_) (fun f cdv A out s H vs Q E hq hr h => ?_)
  · obtain ⟨p, ns, rfl, _⟩ := h; rfl
  obtain ⟨p, ns, rfl, hp, hl, q⟩ := h
  refine ⟨_, pss_one (ps_ret (pe_callB (id := "all") (r := rAll K) (cr_all rfl) (by rfl) nb.all (by decide +kernel) (pa_cons
    (pe_lc (own := [("_law_at", 1)]) (g := gName 1) (tt := tYes) rfl scLaw.nd (pi_range1 (by rfl) nb.rng (pa_cons (pe_callB (id := "max") (call_max2 rfl) (by rfl) nb.max (by decide +kernel) (pa_cons pe_int (pa_cons
        (pe_callB (id := "min") (call_min2 rfl) (by rfl) nb.min (by decide +kernel) (pa_cons (pe_callB (id := "len") call_len_seq (by rfl) nb.len PySem.boot_len (pa_cons (pv 0) pa_nil)) (pa_cons pe_int pa_nil))) pa_nil))) pa_nil))
      (blkOk_by (N := ["_law_script", "_law_at"]) (sc := defScope sLaw) (by decide +kernel)) (fun _ _ _ _ _ => pg_name (i := 1) scLaw.nd rfl (Or.inl rfl)) (fun _ _ _ _ _ => pts_nil)
      (fun _ _ _ _ _ => pe_calG c2 hq hr (by decide) (by rfl) (pa_cons (pe_cal c1 hr (by decide) (by rfl) (pa_cons (pv 0) (pa_cons (pv 1) pa_nil))) pa_nil))) pa_nil))), ?_⟩
  walk_at "rd"
  generalize hm : (if (3 : Int) < ((ns.map V.int).length : Int) then (3 : Int) else ((ns.map V.int).length : Int)) = m
  generalize hk : (if m > 2 then m else 2) = k
  have k0 : 2 ≤ k := by rw [← hk]; split <;> omega
  have k1 : k ≤ 4 := by
    have : m ≤ 4 := by rw [← hm]; split <;> omega
    rw [← hk]; split <;> omega
  refine lc_rng (n := k.toNat) (fun _ => V.bl true) (fun R hR => ?_) (by omega) (wipe1 _ 1) (fun i H1 hi s1 R kR => ?_) fun L H1 s1 nL hL => ?_
  · refine ⟨.ref p, rfl, p, _, rfl, .inl hp, _, _, rfl, _, _, rfl, k, ?_, by omega, by omega, hR⟩
    rw [hm, hk]
  · refine ⟨.ref p, rfl, .int (0 + (i : Int)), rfl, p, ns, _, rfl, s1.seq hp, hl, by omega, fun a H2 s2 na w2 => ⟨a, rfl, w2, fun H3 k3 => kR H3 (same_kp s2 na k3)⟩⟩
  · refine ⟨L, (List.range k.toNat).map (fun _ => true), rfl, SqL.of (by rw [List.map_map]; exact hL), ?_⟩
    have e : ((List.range k.toNat).map (fun _ => true)).all id = true := by
      rw [List.all_eq_true]
      intro b hb
      obtain ⟨_, _, rfl⟩ := List.mem_map.mp hb
      rfl
    rw [e]
    exact q H1
end
end K01

set_option Elab.async false
set_option linter.all false
set_option maxRecDepth 100000
set_option maxHeartbeats 8000000
local macro_rules | `(tactic| walk_at "rd") => `(tactic| dsimp only [Evl.tCut, L2.tSeq, L2.tNext, L2.tRet, L2.tRetN, L2.tAsg, L2.gName, L2.tIfS, L2.tDrop, L2.tCons, L2.tNil, L2.tC, L2.tVar, L2.tCB, L2.tAndV, L2.tOrV, L2.tNotV, L2.tB, L2.tTest, L2.tOp, L2.tUn, L2.tNot, L2.tAnd, L2.tOr, L2.tIf, L2.tCall, L2.tTup, L2.tLst, L2.tNotT, L2.tYes, L2.gTup, L2.gCons, L2.gNil, L2.gSub, L2.tBM0, L2.tBM, L2.tWhile, L2.tFor, L2.iRng1, L2.iRng2, L2.tAugS, Tw.iEnumT, L2.tCKw, L2.tAug, L2.ipI, RT.iRevA, L2.tPar, L2.tPar3, L2.tSl, L2.tNoPart, L2.tPart, Tw.tRevT, Tw.tMk, Tw.tGet])
namespace K01
open PySem PySem.Spec PyProof.Rows L2 Tw
/-- a class by its chain -/
structure Cls (K : PySem.W.Frag) (C : Addr) (ms : List Value) : Prop where
  cd : ∃ d, PySem.W.clsIn K C = some d ∧ d.mro = ms
  ty : PySem.W.typeIn K (.ref C) = some (.type "type")
  x : XcC K C
theorem cls_mk {K : PySem.W.Frag} {C : Addr} {ms : List Value} (hn : PySem.W.specialIn K (.builtin "object.__class__") "__get__" = some (some (.builtin "getset_descriptor.__get__"))) (ht : PySem.W.takesIn K (.builtin "object.__class__") = some true)
    {nm q : Str} {N : Addr} {bs : List Value} {sn : List Str} {sub : List Value} {ab : Bool} {col : Option Bool} {dd : Option Addr} {m0 m1 m2 m3 m5 : Option Value}
    (xL : K.lookup C = some (excClassObj nm q C N bs ms true sn sub ab col dd m0 m1 m2 m3 m5 "ValueError.__new__")) (tC : PySem.W.typeIn K (.ref C) = some (.type "type"))
    (ga : PySem.W.findIn K (.ref C) "__getattribute__" = some (some (.builtin "BaseException.__getattribute__"))) (gg : PySem.W.findIn K (.ref C) "__getattr__" = some none) (eC : PySem.W.subIn K (.ref C) (.type "BaseException") = some true)
    (ha : PySem.W.findIn K (.ref C) "__class__" = some (some (.builtin "object.__class__"))) (ho : PySem.W.mroIn K C (.type "object") = some true) : Cls K C (.ref C :: ms) := by
  have e : PySem.W.clsIn K C = some { name := nm, bases := bs, mro := .ref C :: ms, ns := N, qualname := q, hasDict := true, slotNames := sn, subclasses := sub, abstract := ab, collection := col, hasDel := false } := by unfold PySem.W.clsIn; rw [xL] <;> rfl
  exact ⟨⟨_, e, rfl⟩, tC, ⟨by rw [e]; rfl, ga, gg, eC, ha, hn, ht, ho⟩⟩
theorem with_lowG {R : Prop} {K : PySem.W.Frag} {h : Heap} {mg : Str → Option Value} {cn qn : Str} {C L f1 : Addr} (hn : PySem.W.specialIn K (.builtin "object.__class__") "__get__" = some (some (.builtin "getset_descriptor.__get__"))) (ht : PySem.W.takesIn K (.builtin "object.__class__") = some true) (X : K.In h) (G : h.Ns mainGlobals mg)
    {nm q : Str} {N : Addr} {bs : List Value} {sn : List Str} {sub : List Value} {ab : Bool} {col : Option Bool} {dd : Option Addr} {m0 m1 m2 m3 m5 : Option Value}
    {od1 an1 : Option Addr} {sl1 : Array (Option Value)} {oc1 dc1 pm1 cd1 ct1 : Value} {p1 p2 q1 q2 q3 q4 : Pos}
    (aC : PySem.W.nsIn K mainGlobals cn = some (some (.ref C)))
    (xL : K.lookup C = some (excClassObj nm q C N bs [.ref L, .type "ValueError", .type "Exception", .type "BaseException", .type "object"] true sn sub ab col dd m0 m1 m2 m3 m5 "ValueError.__new__"))
    (sa : PySem.W.findIn K (.ref C) "__setattr__" = some (some (.builtin "object.__setattr__"))) (ga : PySem.W.findIn K (.ref C) "__getattribute__" = some (some (.builtin "BaseException.__getattribute__"))) (gg : PySem.W.findIn K (.ref C) "__getattr__" = some none) (nb : PySem.W.findIn K (.ref C) "given" = some none)
    (a1 : PySem.W.findIn K (.ref C) "__init__" = some (some (.ref f1))) (t1 : PySem.W.typeIn K (.ref f1) = some (.type "function"))
    (l1 : K.lookup f1 = some ⟨oc1, od1, .func (PySem.W.fnOf "__init__" qn (PySem.LowG.iA p1 p2) (PySem.LowG.iB q1 q2 q3 q4) PySem.LowG.iS .none .none dc1 pm1 an1 cd1 ct1), sl1⟩) (c1 : PySem.W.codeIn K cd1 qn = true)
    (kC : PySem.W.keepIn K (.ref C) = true) (eC : PySem.W.subIn K (.ref C) (.type "BaseException") = some true) (tC : PySem.W.typeIn K (.ref C) = some (.type "type")) (hC : PySem.W.hasDictIn K C = true) (ha : PySem.W.findIn K (.ref C) "__class__" = some (some (.builtin "object.__class__"))) (ho : PySem.W.mroIn K C (.type "object") = some true)
    (go : (∃ f, PySem.LowG.LowTxt K mg cn qn C f) → Cls K C [.ref C, .ref L, .type "ValueError", .type "Exception", .type "BaseException", .type "object"] → R) : R :=
  go ⟨f1, { gC := PySem.W.mg_of X G aC, cls := ⟨nm, q, N, bs, _, sn, sub, ab, col, dd, m0, m1, m2, m3, m5, xL, rfl⟩, sa := sa, ga := ga, gg := gg, noN := nb, iC := a1, tC := t1, kC := kC, exC := eC, tyC := tC, hdC := hC, fn := ⟨_, _, _, _, _, _, _, _, _, _, _, _, _, _, l1, c1⟩ }⟩ (cls_mk hn ht xL tC ga gg eC ha ho)
theorem with_lowI {R : Prop} {K : PySem.W.Frag} {h : Heap} {mg : Str → Option Value} {cn qn : Str} {C L f1 : Addr} (hn : PySem.W.specialIn K (.builtin "object.__class__") "__get__" = some (some (.builtin "getset_descriptor.__get__"))) (ht : PySem.W.takesIn K (.builtin "object.__class__") = some true) (X : K.In h) (G : h.Ns mainGlobals mg)
    {nm q : Str} {N : Addr} {bs : List Value} {sn : List Str} {sub : List Value} {ab : Bool} {col : Option Bool} {dd : Option Addr} {m0 m1 m2 m3 m5 : Option Value}
    {od1 an1 : Option Addr} {sl1 : Array (Option Value)} {oc1 dc1 pm1 cd1 ct1 : Value} {p1 p2 q1 q2 q3 q4 : Pos}
    (aC : PySem.W.nsIn K mainGlobals cn = some (some (.ref C)))
    (xL : K.lookup C = some (excClassObj nm q C N bs [.ref L, .type "ValueError", .type "Exception", .type "BaseException", .type "object"] true sn sub ab col dd m0 m1 m2 m3 m5 "ValueError.__new__"))
    (sa : PySem.W.findIn K (.ref C) "__setattr__" = some (some (.builtin "object.__setattr__"))) (ga : PySem.W.findIn K (.ref C) "__getattribute__" = some (some (.builtin "BaseException.__getattribute__"))) (gg : PySem.W.findIn K (.ref C) "__getattr__" = some none) (nb : PySem.W.findIn K (.ref C) "index" = some none)
    (a1 : PySem.W.findIn K (.ref C) "__init__" = some (some (.ref f1))) (t1 : PySem.W.typeIn K (.ref f1) = some (.type "function"))
    (l1 : K.lookup f1 = some ⟨oc1, od1, .func (PySem.W.fnOf "__init__" qn (PySem.LowI.iA p1 p2) (PySem.LowI.iB q1 q2 q3 q4) PySem.LowI.iS .none .none dc1 pm1 an1 cd1 ct1), sl1⟩) (c1 : PySem.W.codeIn K cd1 qn = true)
    (kC : PySem.W.keepIn K (.ref C) = true) (eC : PySem.W.subIn K (.ref C) (.type "BaseException") = some true) (tC : PySem.W.typeIn K (.ref C) = some (.type "type")) (hC : PySem.W.hasDictIn K C = true) (ha : PySem.W.findIn K (.ref C) "__class__" = some (some (.builtin "object.__class__"))) (ho : PySem.W.mroIn K C (.type "object") = some true)
    (go : (∃ f, PySem.LowI.LowTxt K mg cn qn C f) → Cls K C [.ref C, .ref L, .type "ValueError", .type "Exception", .type "BaseException", .type "object"] → R) : R :=
  go ⟨f1, { gC := PySem.W.mg_of X G aC, cls := ⟨nm, q, N, bs, _, sn, sub, ab, col, dd, m0, m1, m2, m3, m5, xL, rfl⟩, sa := sa, ga := ga, gg := gg, noN := nb, iC := a1, tC := t1, kC := kC, exC := eC, tyC := tC, hdC := hC, fn := ⟨_, _, _, _, _, _, _, _, _, _, _, _, _, _, l1, c1⟩ }⟩ (cls_mk hn ht xL tC ga gg eC ha ho)
theorem with_lowS {R : Prop} {K : PySem.W.Frag} {h : Heap} {mg : Str → Option Value} {cn qn : Str} {C L f1 : Addr} (hn : PySem.W.specialIn K (.builtin "object.__class__") "__get__" = some (some (.builtin "getset_descriptor.__get__"))) (ht : PySem.W.takesIn K (.builtin "object.__class__") = some true) (X : K.In h) (G : h.Ns mainGlobals mg)
    {nm q : Str} {N : Addr} {bs : List Value} {sn : List Str} {sub : List Value} {ab : Bool} {col : Option Bool} {dd : Option Addr} {m0 m1 m2 m3 m5 : Option Value}
    {od1 an1 : Option Addr} {sl1 : Array (Option Value)} {oc1 dc1 pm1 cd1 ct1 : Value} {p1 p2 q1 q2 q3 q4 : Pos}
    (aC : PySem.W.nsIn K mainGlobals cn = some (some (.ref C)))
    (xL : K.lookup C = some (excClassObj nm q C N bs [.ref L, .type "ValueError", .type "Exception", .type "BaseException", .type "object"] true sn sub ab col dd m0 m1 m2 m3 m5 "ValueError.__new__"))
    (sa : PySem.W.findIn K (.ref C) "__setattr__" = some (some (.builtin "object.__setattr__"))) (ga : PySem.W.findIn K (.ref C) "__getattribute__" = some (some (.builtin "BaseException.__getattribute__"))) (gg : PySem.W.findIn K (.ref C) "__getattr__" = some none) (nb : PySem.W.findIn K (.ref C) "spot" = some none)
    (a1 : PySem.W.findIn K (.ref C) "__init__" = some (some (.ref f1))) (t1 : PySem.W.typeIn K (.ref f1) = some (.type "function"))
    (l1 : K.lookup f1 = some ⟨oc1, od1, .func (PySem.W.fnOf "__init__" qn (PySem.LowS.iA p1 p2) (PySem.LowS.iB q1 q2 q3 q4) PySem.LowS.iS .none .none dc1 pm1 an1 cd1 ct1), sl1⟩) (c1 : PySem.W.codeIn K cd1 qn = true)
    (kC : PySem.W.keepIn K (.ref C) = true) (eC : PySem.W.subIn K (.ref C) (.type "BaseException") = some true) (tC : PySem.W.typeIn K (.ref C) = some (.type "type")) (hC : PySem.W.hasDictIn K C = true) (ha : PySem.W.findIn K (.ref C) "__class__" = some (some (.builtin "object.__class__"))) (ho : PySem.W.mroIn K C (.type "object") = some true)
    (go : (∃ f, PySem.LowS.LowTxt K mg cn qn C f) → Cls K C [.ref C, .ref L, .type "ValueError", .type "Exception", .type "BaseException", .type "object"] → R) : R :=
  go ⟨f1, { gC := PySem.W.mg_of X G aC, cls := ⟨nm, q, N, bs, _, sn, sub, ab, col, dd, m0, m1, m2, m3, m5, xL, rfl⟩, sa := sa, ga := ga, gg := gg, noN := nb, iC := a1, tC := t1, kC := kC, exC := eC, tyC := tC, hdC := hC, fn := ⟨_, _, _, _, _, _, _, _, _, _, _, _, _, _, l1, c1⟩ }⟩ (cls_mk hn ht xL tC ga gg eC ha ho)
theorem with_exc {R : Prop} {K : PySem.W.Frag} {h : Heap} {mg : Str → Option Value} {cn : Str} {C : Addr} {ms : List Value} (hn : PySem.W.specialIn K (.builtin "object.__class__") "__get__" = some (some (.builtin "getset_descriptor.__get__"))) (ht : PySem.W.takesIn K (.builtin "object.__class__") = some true) (X : K.In h) (G : h.Ns mainGlobals mg)
    {nm q : Str} {N : Addr} {bs : List Value} {sn : List Str} {sub : List Value} {ab : Bool} {col : Option Bool} {dd : Option Addr} {m0 m1 m2 m3 m5 : Option Value}
    (aC : PySem.W.nsIn K mainGlobals cn = some (some (.ref C)))
    (xL : K.lookup C = some (excClassObj nm q C N bs ms true sn sub ab col dd m0 m1 m2 m3 m5 "ValueError.__new__"))
    (ga : PySem.W.findIn K (.ref C) "__getattribute__" = some (some (.builtin "BaseException.__getattribute__"))) (gg : PySem.W.findIn K (.ref C) "__getattr__" = some none)
    (kC : PySem.W.keepIn K (.ref C) = true) (eC : PySem.W.subIn K (.ref C) (.type "BaseException") = some true) (tC : PySem.W.typeIn K (.ref C) = some (.type "type")) (ha : PySem.W.findIn K (.ref C) "__class__" = some (some (.builtin "object.__class__"))) (ho : PySem.W.mroIn K C (.type "object") = some true)
    (ex : PySem.W.excIn K C [.type "ValueError", .type "Exception", .type "BaseException", .type "object"] "ValueError.__new__" = true)
    (go : Xc0 K mg cn C → Cls K C (.ref C :: ms) → R) : R := go ⟨PySem.W.mg_of X G aC, kC, ex⟩ (cls_mk hn ht xL tC ga gg eC ha ho)
theorem with_bas {R : Prop} {K : PySem.W.Frag} {h : Heap} (X : K.In h) (hn : PySem.W.specialIn K (.builtin "object.__class__") "__get__" = some (some (.builtin "getset_descriptor.__get__"))) (ht : PySem.W.takesIn K (.builtin "object.__class__") = some true)
    (go : PySem.W.specialIn K (.builtin "object.__class__") "__get__" = some (some (.builtin "getset_descriptor.__get__")) → PySem.W.takesIn K (.builtin "object.__class__") = some true → R) : R := go hn ht
def veT : List Value := [.type "ValueError", .type "Exception", .type "BaseException", .type "object"]
def mroOf' (c : Nat → Addr) (i : Nat) : List Value := if i = 19 then .ref (c 19) :: veT else .ref (c i) :: .ref (c 19) :: veT
theorem nodup_inj {l : List Addr} (nd : l.Nodup) {i j : Nat} (hi : i < l.length) (hj : j < l.length) (e : l.getD i 0 = l.getD j 0) : i = j := by
  have h : ∀ k (hk : k < l.length), l.getD k 0 = l[k] := fun k hk => by simp [List.getD, List.getElem?_eq_getElem hk]
  rw [h i hi, h j hj] at e
  exact (List.getElem_inj nd).mp e
theorem ref_in (a : Addr) : (Value.ref a == Value.ref a) = true := by simp
theorem ref_ne {a b : Addr} (h : a ≠ b) : (Value.ref a == Value.ref b) = false := by
  rw [beq_eq_false_iff_ne]
  exact fun z => h (Value.ref.inj z)
theorem ve_ref (a : Addr) : veT.contains (Value.ref a) = false := by
  unfold veT
  simp
theorem kit_own {K : PySem.W.Frag} {c : Nat → Addr} (inj : ∀ i j, i < 20 → j < 20 → c i = c j → i = j) (M : ∀ i, i < 20 → Cls K (c i) (mroOf' c i)) {i j : Nat} (hi : i < 20) (hj : j < 20) :
    PySem.W.kitOne K (.ref (c i)) (.ref (c j)) = some (tb i j) := by
  unfold PySem.W.kitOne
  by_cases e : i = j
  · subst e
    rw [if_pos (ref_in _)]
    unfold tb
    simp
  · have ne : c i ≠ c j := fun z => e (inj i j hi hj z)
    rw [if_neg (by rw [ref_ne ne]; exact Bool.false_ne_true)]
    obtain ⟨d, h1, h2⟩ := (M i hi).cd
    obtain ⟨d', h3, _⟩ := (M j hj).cd
    show (if ((PySem.W.clsIn K (c j)).isSome && PySem.W.typeIn K (.ref (c j)) == some (.type "type")) = true then PySem.W.subIn K (.ref (c i)) (.ref (c j)) else none) = _
    rw [h3, (M j hj).ty, if_pos (by simp)]
    show PySem.W.mroIn K (c i) (.ref (c j)) = _
    unfold PySem.W.mroIn
    rw [h1, Option.bind_some, h2]
    unfold mroOf'
    have jn : (j == i) = false := by simpa using fun z : j = i => e z.symm
    by_cases c9 : i = 19
    · subst c9
      rw [if_pos rfl]
      rw [if_neg (by simp), List.contains_cons, ve_ref, ref_ne (Ne.symm ne)]
      unfold tb
      rw [jn]
      have : ¬ (18 < j) := by omega
      simp [this]
    · rw [if_neg c9]
      rw [if_neg (by simp), List.contains_cons, List.contains_cons, ve_ref, ref_ne (Ne.symm ne)]
      unfold tb
      rw [jn]
      by_cases d9 : j = 19
      · subst d9
        rw [ref_in]
        rfl
      · rw [ref_ne fun z => d9 (inj j 19 hj (by decide) z)]
        have : ¬ (18 < j) := by omega
        simp [this]
theorem kit_built {K : PySem.W.Frag} {c : Nat → Addr} (M : ∀ i, i < 20 → Cls K (c i) (mroOf' c i)) {i : Nat} (hi : i < 20) {T : String} (hm : PySem.W.kitMeta T = true) :
    PySem.W.kitOne K (.ref (c i)) (.type T) = some (veT.contains (.type T)) := by
  unfold PySem.W.kitOne
  rw [if_neg (by simp)]
  obtain ⟨d, h1, h2⟩ := (M i hi).cd
  show (if PySem.W.kitMeta T = true then PySem.W.subIn K (.ref (c i)) (.type T) else none) = _
  rw [hm, if_pos rfl]
  show PySem.W.mroIn K (c i) (.type T) = _
  unfold PySem.W.mroIn
  rw [h1, Option.bind_some, h2]
  have ty : ∀ a, (Value.type T == Value.ref a) = false := fun a => by rw [beq_eq_false_iff_ne]; exact fun z => by cases z
  unfold mroOf'
  by_cases c9 : i = 19
  · rw [if_pos c9, if_neg (by simp), List.contains_cons, ty]
    rfl
  · rw [if_neg c9, if_neg (by simp), List.contains_cons, List.contains_cons, ty, ty]
    rfl
theorem txt_mk {K : PySem.W.Frag} {mg : Str → Option Value} {C0 C1 C2 C3 C4 C5 C6 C7 C8 C9 C10 C11 C12 C13 C14 C15 C16 C17 C18 C19 : Addr} (nd : [C0, C1, C2, C3, C4, C5, C6, C7, C8, C9, C10, C11, C12, C13, C14, C15, C16, C17, C18, C19].Nodup)
    (t0 : ∃ f, PySem.LowG.LowTxt K mg "InvalidFraction" "InvalidFraction.__init__" C0 f)
    (t1 : ∃ f, PySem.LowG.LowTxt K mg "InvalidRow" "InvalidRow.__init__" C1 f)
    (t2 : ∃ f, PySem.LowG.LowTxt K mg "InvalidNumber" "InvalidNumber.__init__" C2 f)
    (t3 : ∃ f, PySem.LowG.LowTxt K mg "InvalidForm" "InvalidForm.__init__" C3 f)
    (t4 : ∃ f, PySem.LowG.LowTxt K mg "InvalidIndex" "InvalidIndex.__init__" C4 f)
    (t5 : ∃ f, PySem.LowG.LowTxt K mg "InvalidCount" "InvalidCount.__init__" C5 f)
    (t6 : ∃ f, PySem.LowG.LowTxt K mg "InvalidRelation" "InvalidRelation.__init__" C6 f)
    (t7 : ∃ f, PySem.LowG.LowTxt K mg "InvalidLetter" "InvalidLetter.__init__" C7 f)
    (t8 : ∃ f, PySem.LowG.LowTxt K mg "InvalidPoly" "InvalidPoly.__init__" C8 f)
    (t9 : ∃ f, PySem.LowG.LowTxt K mg "InvalidPlace" "InvalidPlace.__init__" C9 f)
    (t10 : ∃ f, PySem.LowG.LowTxt K mg "InvalidCell" "InvalidCell.__init__" C10 f)
    (t11 : ∃ f, PySem.LowG.LowTxt K mg "InvalidPoint" "InvalidPoint.__init__" C11 f)
    (t12 : ∃ f, PySem.LowG.LowTxt K mg "InvalidSaying" "InvalidSaying.__init__" C12 f)
    (t13 : ∃ f, PySem.LowG.LowTxt K mg "TooMany" "TooMany.__init__" C13 f)
    (t14 : ∃ f, PySem.LowI.LowTxt K mg "InvalidRows" "InvalidRows.__init__" C14 f)
    (t15 : ∃ f, PySem.LowI.LowTxt K mg "InvalidPolys" "InvalidPolys.__init__" C15 f)
    (t16 : ∃ f, PySem.LowI.LowTxt K mg "InvalidLines" "InvalidLines.__init__" C16 f)
    (t17 : ∃ f, PySem.LowS.LowTxt K mg "BadText" "BadText.__init__" C17 f)
    (t18 : Xc0 K mg "UnlikePlaces" C18) (t19 : Xc0 K mg "LetterError" C19)
    (m0 : Cls K C0 (.ref C0 :: .ref C19 :: veT))
    (m1 : Cls K C1 (.ref C1 :: .ref C19 :: veT))
    (m2 : Cls K C2 (.ref C2 :: .ref C19 :: veT))
    (m3 : Cls K C3 (.ref C3 :: .ref C19 :: veT))
    (m4 : Cls K C4 (.ref C4 :: .ref C19 :: veT))
    (m5 : Cls K C5 (.ref C5 :: .ref C19 :: veT))
    (m6 : Cls K C6 (.ref C6 :: .ref C19 :: veT))
    (m7 : Cls K C7 (.ref C7 :: .ref C19 :: veT))
    (m8 : Cls K C8 (.ref C8 :: .ref C19 :: veT))
    (m9 : Cls K C9 (.ref C9 :: .ref C19 :: veT))
    (m10 : Cls K C10 (.ref C10 :: .ref C19 :: veT))
    (m11 : Cls K C11 (.ref C11 :: .ref C19 :: veT))
    (m12 : Cls K C12 (.ref C12 :: .ref C19 :: veT))
    (m13 : Cls K C13 (.ref C13 :: .ref C19 :: veT))
    (m14 : Cls K C14 (.ref C14 :: .ref C19 :: veT))
    (m15 : Cls K C15 (.ref C15 :: .ref C19 :: veT))
    (m16 : Cls K C16 (.ref C16 :: .ref C19 :: veT))
    (m17 : Cls K C17 (.ref C17 :: .ref C19 :: veT))
    (m18 : Cls K C18 (.ref C18 :: .ref C19 :: veT))
    (m19 : Cls K C19 (.ref C19 :: veT)) : Txt K mg (fun i => [C0, C1, C2, C3, C4, C5, C6, C7, C8, C9, C10, C11, C12, C13, C14, C15, C16, C17, C18, C19].getD i 0) := by
  have M : ∀ i, i < 20 → Cls K ((fun i => [C0, C1, C2, C3, C4, C5, C6, C7, C8, C9, C10, C11, C12, C13, C14, C15, C16, C17, C18, C19].getD i 0) i) (mroOf' (fun i => [C0, C1, C2, C3, C4, C5, C6, C7, C8, C9, C10, C11, C12, C13, C14, C15, C16, C17, C18, C19].getD i 0) i) := fun i hi => match i, hi with
    | 0, _ => m0
    | 1, _ => m1
    | 2, _ => m2
    | 3, _ => m3
    | 4, _ => m4
    | 5, _ => m5
    | 6, _ => m6
    | 7, _ => m7
    | 8, _ => m8
    | 9, _ => m9
    | 10, _ => m10
    | 11, _ => m11
    | 12, _ => m12
    | 13, _ => m13
    | 14, _ => m14
    | 15, _ => m15
    | 16, _ => m16
    | 17, _ => m17
    | 18, _ => m18
    | 19, _ => m19
    | n + 20, h => absurd h (by omega)
  have inj : ∀ i j, i < 20 → j < 20 → (fun i => [C0, C1, C2, C3, C4, C5, C6, C7, C8, C9, C10, C11, C12, C13, C14, C15, C16, C17, C18, C19].getD i 0) i = (fun i => [C0, C1, C2, C3, C4, C5, C6, C7, C8, C9, C10, C11, C12, C13, C14, C15, C16, C17, C18, C19].getD i 0) j → i = j := fun i j hi hj e => by
    exact nodup_inj (l := [C0, C1, C2, C3, C4, C5, C6, C7, C8, C9, C10, C11, C12, C13, C14, C15, C16, C17, C18, C19]) nd hi hj e
  exact {
    t0 := t0
    t1 := t1
    t2 := t2
    t3 := t3
    t4 := t4
    t5 := t5
    t6 := t6
    t7 := t7
    t8 := t8
    t9 := t9
    t10 := t10
    t11 := t11
    t12 := t12
    t13 := t13
    t14 := t14
    t15 := t15
    t16 := t16
    t17 := t17
    t18 := t18
    t19 := t19
    x := fun i hi => (M i hi).x
    k := fun i hi j hj => by
      by_cases c : j < 20
      · unfold tyv
        rw [if_pos c]
        exact kit_own inj M hi c
      · have hv : ∀ T, PySem.W.kitMeta T = true → tyv (fun i => [C0, C1, C2, C3, C4, C5, C6, C7, C8, C9, C10, C11, C12, C13, C14, C15, C16, C17, C18, C19].getD i 0) j = .type T → veT.contains (.type T) = tb i j → PySem.W.kitOne K (.ref ([C0, C1, C2, C3, C4, C5, C6, C7, C8, C9, C10, C11, C12, C13, C14, C15, C16, C17, C18, C19].getD i 0)) (tyv (fun i => [C0, C1, C2, C3, C4, C5, C6, C7, C8, C9, C10, C11, C12, C13, C14, C15, C16, C17, C18, C19].getD i 0) j) = some (tb i j) := fun T hm e1 e2 => by
          rw [e1, ← e2]
          exact kit_built M hi hm
        have hb : ∀ m, 22 ≤ m → tb i m = false := fun m hm => by
          unfold tb
          have h1 : (m == i) = false := by
            have : m ≠ i := by omega
            simpa using this
          have h2 : ¬ m < 22 := by omega
          rw [h1]; simp [h2]
        have h20 : tb i 20 = true := by unfold tb; simp
        have h21 : tb i 21 = true := by unfold tb; simp
        obtain ⟨r, rfl⟩ : ∃ r, j = 20 + r := ⟨j - 20, by omega⟩
        match r, hj with
        | 0, _ => exact hv "ValueError" (by decide +kernel) rfl (by rw [h20]; decide +kernel)
        | 1, _ => exact hv "Exception" (by decide +kernel) rfl (by rw [h21]; decide +kernel)
        | 2, _ => exact hv "LookupError" (by decide +kernel) rfl (by rw [hb _ (by decide)]; decide +kernel)
        | 3, _ => exact hv "TypeError" (by decide +kernel) rfl (by rw [hb _ (by decide)]; decide +kernel)
        | 4, _ => exact hv "ArithmeticError" (by decide +kernel) rfl (by rw [hb _ (by decide)]; decide +kernel)
        | 5, _ => exact hv "RuntimeError" (by decide +kernel) rfl (by rw [hb _ (by decide)]; decide +kernel)
        | 6, _ => exact hv "AttributeError" (by decide +kernel) rfl (by rw [hb _ (by decide)]; decide +kernel)
        | n + 7, h => omega }
end K01

set_option Elab.async false
set_option linter.all false
set_option maxRecDepth 100000
namespace K01
open PySem PySem.Spec PyProof.Rows L2 Tw
/-- all defs and names, put together -/
theorem whole {P : Program} {w : World} {K : PySem.W.Frag} {mg : Str → Option Value} {c : Nat → Addr} (nb : Nb mg) (nt : Nt mg) (T : Txt K mg c)
    (d0 : Def K mg "_law_well" sWell ["_law_script", "_law_at"])
    (d1 : Def K mg "_law_draw" sDraw ["_law_well_here", "_law_few"])
    (d2 : Def K mg "_law_pick" sPick ["_law_well_here", "_law_some"])
    (d3 : Def K mg "_law_common" sCommon ["_law_one", "_law_two"])
    (d4 : Def K mg "_law_lean" sLean ["_law_top", "_law_base"])
    (d5 : Def K mg "_law_small" sSmall ["_law_well_here"])
    (d6 : Def K mg "_law_part" sPart ["_law_well_here"])
    (d7 : Def K mg "_law_odd" sOdd ["_law_well_here"])
    (d8 : Def K mg "_law_bent" sBent ["_law_well_here", "_law_thing"])
    (d9 : Def K mg "_law_spoilt" sSpoilt ["_law_well_here", "_law_thing"])
    (d10 : Def K mg "_law_low" sLow ["_law_spot", "_law_thing"])
    (d11 : Def K mg "_law_by_place" sPlace ["_law_spot", "_law_thing"])
    (d12 : Def K mg "_law_low_name" sLowN ["_law_spot", "_law_thing"])
    (d13 : Def K mg "_law_by_name" sByName ["_law_spot", "_law_thing"])
    (d14 : Def K mg "_law_truths" sTruths ["_law_error"])
    (d15 : Def K mg "_law_is_made" sMade ["_law_at", "_law_thing", "_law_error"])
    (d16 : Def K mg "_law_right" sRight ["_law_well_here"])
    (d17 : Def K mg "law" sLaw ["_law_script"])
    (base : Heap) : CalG P w K mg base "law" 15 ["_law_script"] (spLaw K) := by
  have c_well := ok_well (P := P) (w := w) (base := base) d0 nb
  have c_draw := ok_draw (P := P) (w := w) (base := base) d1 nb
  have c_pick := ok_pick d2 nb c_draw
  have c_common := ok_common (P := P) (w := w) (base := base) d3 nb
  have c_lean := ok_lean d4 c_common
  have c_small := ok_small d5 c_draw
  have c_part := ok_part d6 c_small c_lean c_pick
  have c_odd := ok_odd d7 c_pick
  have c_bent := bent_all d8 nb c_draw c_odd 9
  have c_sp := ok_spoilt d9 c_draw c_odd c_bent
  have c_low := ok_low (P := P) (w := w) (base := base) d10 T
  have c_pl := ok_place d11 T c_low
  have c_lowN := ok_lowN (P := P) (w := w) (base := base) d12 T
  have c_by := ok_byName d13 T c_lowN
  have c_tr := ok_truths (P := P) (w := w) (base := base) d14 nb nt T
  have c_made := ok_made d15 nb T c_tr
  have c_right := ok_right d16 nb c_odd c_part c_sp c_pl c_by c_made
  exact ok_law d17 nb c_well c_right
end K01
open PySem PySem.W PyProof.Rows
set_option maxHeartbeats 0 in
theorem PySem.Challenge.cw_twoletters_k01_errors_each_of_its_own_holds : PySem.Challenge.rw_twoletters_k01_errors_each_of_its_own.Holds := by
  w_on; o_law; k_head; (case hw => w_witness2)
  k_fill
  refine Tw.walk_quiet (l := PySem.Challenge.rw_twoletters_k01_errors_each_of_its_own) (n := 63) (k := 15) (x := "_law_script") (sp := K01.spLaw) rfl (by decide) rfl ⟨rfl, by decide, by decide⟩ (fun w h Y => PySem.W.kIn_of Y) ?F
    (fun K H a ns hl _ hS => ⟨a, ns, rfl, hS, hl, fun _ => rfl⟩)
  case F =>
    intro w mg fa h KX G hmg
    refine' K01.with_bas KX ?hn ?ht (fun hn ht => ?_)
    (case hn => k_is); (case ht => k_is)
    refine' K01.with_lowG (cn := "InvalidFraction") (qn := "InvalidFraction.__init__") hn ht KX G ?aC ?xL ?sa ?ga ?gg ?nb ?a1 ?t1 ?l1 ?c1 ?kC ?eC ?tC ?hC ?ha ?ho (fun t0 m0 => ?_)
    (case aC => k_is); (case xL => k_is); (case sa => k_is); (case ga => k_is); (case gg => k_is); (case nb => k_is); (case a1 => k_is); (case t1 => k_is); (case l1 => k_is); (case c1 => k_is); (case kC => k_is); (case eC => k_is); (case tC => k_is); (case hC => k_is); (case ha => k_is); (case ho => k_is)
    refine' K01.with_lowG (cn := "InvalidRow") (qn := "InvalidRow.__init__") hn ht KX G ?aC ?xL ?sa ?ga ?gg ?nb ?a1 ?t1 ?l1 ?c1 ?kC ?eC ?tC ?hC ?ha ?ho (fun t1 m1 => ?_)
    (case aC => k_is); (case xL => k_is); (case sa => k_is); (case ga => k_is); (case gg => k_is); (case nb => k_is); (case a1 => k_is); (case t1 => k_is); (case l1 => k_is); (case c1 => k_is); (case kC => k_is); (case eC => k_is); (case tC => k_is); (case hC => k_is); (case ha => k_is); (case ho => k_is)
    refine' K01.with_lowG (cn := "InvalidNumber") (qn := "InvalidNumber.__init__") hn ht KX G ?aC ?xL ?sa ?ga ?gg ?nb ?a1 ?t1 ?l1 ?c1 ?kC ?eC ?tC ?hC ?ha ?ho (fun t2 m2 => ?_)
    (case aC => k_is); (case xL => k_is); (case sa => k_is); (case ga => k_is); (case gg => k_is); (case nb => k_is); (case a1 => k_is); (case t1 => k_is); (case l1 => k_is); (case c1 => k_is); (case kC => k_is); (case eC => k_is); (case tC => k_is); (case hC => k_is); (case ha => k_is); (case ho => k_is)
    refine' K01.with_lowG (cn := "InvalidForm") (qn := "InvalidForm.__init__") hn ht KX G ?aC ?xL ?sa ?ga ?gg ?nb ?a1 ?t1 ?l1 ?c1 ?kC ?eC ?tC ?hC ?ha ?ho (fun t3 m3 => ?_)
    (case aC => k_is); (case xL => k_is); (case sa => k_is); (case ga => k_is); (case gg => k_is); (case nb => k_is); (case a1 => k_is); (case t1 => k_is); (case l1 => k_is); (case c1 => k_is); (case kC => k_is); (case eC => k_is); (case tC => k_is); (case hC => k_is); (case ha => k_is); (case ho => k_is)
    refine' K01.with_lowG (cn := "InvalidIndex") (qn := "InvalidIndex.__init__") hn ht KX G ?aC ?xL ?sa ?ga ?gg ?nb ?a1 ?t1 ?l1 ?c1 ?kC ?eC ?tC ?hC ?ha ?ho (fun t4 m4 => ?_)
    (case aC => k_is); (case xL => k_is); (case sa => k_is); (case ga => k_is); (case gg => k_is); (case nb => k_is); (case a1 => k_is); (case t1 => k_is); (case l1 => k_is); (case c1 => k_is); (case kC => k_is); (case eC => k_is); (case tC => k_is); (case hC => k_is); (case ha => k_is); (case ho => k_is)
    refine' K01.with_lowG (cn := "InvalidCount") (qn := "InvalidCount.__init__") hn ht KX G ?aC ?xL ?sa ?ga ?gg ?nb ?a1 ?t1 ?l1 ?c1 ?kC ?eC ?tC ?hC ?ha ?ho (fun t5 m5 => ?_)
    (case aC => k_is); (case xL => k_is); (case sa => k_is); (case ga => k_is); (case gg => k_is); (case nb => k_is); (case a1 => k_is); (case t1 => k_is); (case l1 => k_is); (case c1 => k_is); (case kC => k_is); (case eC => k_is); (case tC => k_is); (case hC => k_is); (case ha => k_is); (case ho => k_is)
    refine' K01.with_lowG (cn := "InvalidRelation") (qn := "InvalidRelation.__init__") hn ht KX G ?aC ?xL ?sa ?ga ?gg ?nb ?a1 ?t1 ?l1 ?c1 ?kC ?eC ?tC ?hC ?ha ?ho (fun t6 m6 => ?_)
    (case aC => k_is); (case xL => k_is); (case sa => k_is); (case ga => k_is); (case gg => k_is); (case nb => k_is); (case a1 => k_is); (case t1 => k_is); (case l1 => k_is); (case c1 => k_is); (case kC => k_is); (case eC => k_is); (case tC => k_is); (case hC => k_is); (case ha => k_is); (case ho => k_is)
    refine' K01.with_lowG (cn := "InvalidLetter") (qn := "InvalidLetter.__init__") hn ht KX G ?aC ?xL ?sa ?ga ?gg ?nb ?a1 ?t1 ?l1 ?c1 ?kC ?eC ?tC ?hC ?ha ?ho (fun t7 m7 => ?_)
    (case aC => k_is); (case xL => k_is); (case sa => k_is); (case ga => k_is); (case gg => k_is); (case nb => k_is); (case a1 => k_is); (case t1 => k_is); (case l1 => k_is); (case c1 => k_is); (case kC => k_is); (case eC => k_is); (case tC => k_is); (case hC => k_is); (case ha => k_is); (case ho => k_is)
    refine' K01.with_lowG (cn := "InvalidPoly") (qn := "InvalidPoly.__init__") hn ht KX G ?aC ?xL ?sa ?ga ?gg ?nb ?a1 ?t1 ?l1 ?c1 ?kC ?eC ?tC ?hC ?ha ?ho (fun t8 m8 => ?_)
    (case aC => k_is); (case xL => k_is); (case sa => k_is); (case ga => k_is); (case gg => k_is); (case nb => k_is); (case a1 => k_is); (case t1 => k_is); (case l1 => k_is); (case c1 => k_is); (case kC => k_is); (case eC => k_is); (case tC => k_is); (case hC => k_is); (case ha => k_is); (case ho => k_is)
    refine' K01.with_lowG (cn := "InvalidPlace") (qn := "InvalidPlace.__init__") hn ht KX G ?aC ?xL ?sa ?ga ?gg ?nb ?a1 ?t1 ?l1 ?c1 ?kC ?eC ?tC ?hC ?ha ?ho (fun t9 m9 => ?_)
    (case aC => k_is); (case xL => k_is); (case sa => k_is); (case ga => k_is); (case gg => k_is); (case nb => k_is); (case a1 => k_is); (case t1 => k_is); (case l1 => k_is); (case c1 => k_is); (case kC => k_is); (case eC => k_is); (case tC => k_is); (case hC => k_is); (case ha => k_is); (case ho => k_is)
    refine' K01.with_lowG (cn := "InvalidCell") (qn := "InvalidCell.__init__") hn ht KX G ?aC ?xL ?sa ?ga ?gg ?nb ?a1 ?t1 ?l1 ?c1 ?kC ?eC ?tC ?hC ?ha ?ho (fun t10 m10 => ?_)
    (case aC => k_is); (case xL => k_is); (case sa => k_is); (case ga => k_is); (case gg => k_is); (case nb => k_is); (case a1 => k_is); (case t1 => k_is); (case l1 => k_is); (case c1 => k_is); (case kC => k_is); (case eC => k_is); (case tC => k_is); (case hC => k_is); (case ha => k_is); (case ho => k_is)
    refine' K01.with_lowG (cn := "InvalidPoint") (qn := "InvalidPoint.__init__") hn ht KX G ?aC ?xL ?sa ?ga ?gg ?nb ?a1 ?t1 ?l1 ?c1 ?kC ?eC ?tC ?hC ?ha ?ho (fun t11 m11 => ?_)
    (case aC => k_is); (case xL => k_is); (case sa => k_is); (case ga => k_is); (case gg => k_is); (case nb => k_is); (case a1 => k_is); (case t1 => k_is); (case l1 => k_is); (case c1 => k_is); (case kC => k_is); (case eC => k_is); (case tC => k_is); (case hC => k_is); (case ha => k_is); (case ho => k_is)
    refine' K01.with_lowG (cn := "InvalidSaying") (qn := "InvalidSaying.__init__") hn ht KX G ?aC ?xL ?sa ?ga ?gg ?nb ?a1 ?t1 ?l1 ?c1 ?kC ?eC ?tC ?hC ?ha ?ho (fun t12 m12 => ?_)
    (case aC => k_is); (case xL => k_is); (case sa => k_is); (case ga => k_is); (case gg => k_is); (case nb => k_is); (case a1 => k_is); (case t1 => k_is); (case l1 => k_is); (case c1 => k_is); (case kC => k_is); (case eC => k_is); (case tC => k_is); (case hC => k_is); (case ha => k_is); (case ho => k_is)
    refine' K01.with_lowG (cn := "TooMany") (qn := "TooMany.__init__") hn ht KX G ?aC ?xL ?sa ?ga ?gg ?nb ?a1 ?t1 ?l1 ?c1 ?kC ?eC ?tC ?hC ?ha ?ho (fun t13 m13 => ?_)
    (case aC => k_is); (case xL => k_is); (case sa => k_is); (case ga => k_is); (case gg => k_is); (case nb => k_is); (case a1 => k_is); (case t1 => k_is); (case l1 => k_is); (case c1 => k_is); (case kC => k_is); (case eC => k_is); (case tC => k_is); (case hC => k_is); (case ha => k_is); (case ho => k_is)
    refine' K01.with_lowI (cn := "InvalidRows") (qn := "InvalidRows.__init__") hn ht KX G ?aC ?xL ?sa ?ga ?gg ?nb ?a1 ?t1 ?l1 ?c1 ?kC ?eC ?tC ?hC ?ha ?ho (fun t14 m14 => ?_)
    (case aC => k_is); (case xL => k_is); (case sa => k_is); (case ga => k_is); (case gg => k_is); (case nb => k_is); (case a1 => k_is); (case t1 => k_is); (case l1 => k_is); (case c1 => k_is); (case kC => k_is); (case eC => k_is); (case tC => k_is); (case hC => k_is); (case ha => k_is); (case ho => k_is)
    refine' K01.with_lowI (cn := "InvalidPolys") (qn := "InvalidPolys.__init__") hn ht KX G ?aC ?xL ?sa ?ga ?gg ?nb ?a1 ?t1 ?l1 ?c1 ?kC ?eC ?tC ?hC ?ha ?ho (fun t15 m15 => ?_)
    (case aC => k_is); (case xL => k_is); (case sa => k_is); (case ga => k_is); (case gg => k_is); (case nb => k_is); (case a1 => k_is); (case t1 => k_is); (case l1 => k_is); (case c1 => k_is); (case kC => k_is); (case eC => k_is); (case tC => k_is); (case hC => k_is); (case ha => k_is); (case ho => k_is)
    refine' K01.with_lowI (cn := "InvalidLines") (qn := "InvalidLines.__init__") hn ht KX G ?aC ?xL ?sa ?ga ?gg ?nb ?a1 ?t1 ?l1 ?c1 ?kC ?eC ?tC ?hC ?ha ?ho (fun t16 m16 => ?_)
    (case aC => k_is); (case xL => k_is); (case sa => k_is); (case ga => k_is); (case gg => k_is); (case nb => k_is); (case a1 => k_is); (case t1 => k_is); (case l1 => k_is); (case c1 => k_is); (case kC => k_is); (case eC => k_is); (case tC => k_is); (case hC => k_is); (case ha => k_is); (case ho => k_is)
    refine' K01.with_lowS (cn := "BadText") (qn := "BadText.__init__") hn ht KX G ?aC ?xL ?sa ?ga ?gg ?nb ?a1 ?t1 ?l1 ?c1 ?kC ?eC ?tC ?hC ?ha ?ho (fun t17 m17 => ?_)
    (case aC => k_is); (case xL => k_is); (case sa => k_is); (case ga => k_is); (case gg => k_is); (case nb => k_is); (case a1 => k_is); (case t1 => k_is); (case l1 => k_is); (case c1 => k_is); (case kC => k_is); (case eC => k_is); (case tC => k_is); (case hC => k_is); (case ha => k_is); (case ho => k_is)
    refine' K01.with_exc (cn := "UnlikePlaces") hn ht KX G ?aC ?xL ?ga ?gg ?kC ?eC ?tC ?ha ?ho ?ex (fun t18 m18 => ?_)
    (case aC => k_is); (case xL => k_is); (case ga => k_is); (case gg => k_is); (case kC => k_is); (case eC => k_is); (case tC => k_is); (case ha => k_is); (case ho => k_is); (case ex => k_exc)
    refine' K01.with_exc (cn := "LetterError") hn ht KX G ?aC ?xL ?ga ?gg ?kC ?eC ?tC ?ha ?ho ?ex (fun t19 m19 => ?_)
    (case aC => k_is); (case xL => k_is); (case ga => k_is); (case gg => k_is); (case kC => k_is); (case eC => k_is); (case tC => k_is); (case ha => k_is); (case ho => k_is); (case ex => k_exc)
    refine' Tw.with_def (x := "_law_well") (st := K01.sWell) (ps := ["_law_script", "_law_at"]) KX G ?a ?l ?c ?k (fun _ _ _ _ _ _ us hl => match us, hl with | [_, _], _ => rfl) (fun d0 => ?_)
    (case a => k_is); (case l => k_is); (case c => k_is); (case k => k_is)
    refine' Tw.with_def (x := "_law_draw") (st := K01.sDraw) (ps := ["_law_well_here", "_law_few"]) KX G ?a ?l ?c ?k (fun _ _ _ _ _ _ us hl => match us, hl with | [_, _], _ => rfl) (fun d1 => ?_)
    (case a => k_is); (case l => k_is); (case c => k_is); (case k => k_is)
    refine' Tw.with_def (x := "_law_pick") (st := K01.sPick) (ps := ["_law_well_here", "_law_some"]) KX G ?a ?l ?c ?k (fun _ _ _ _ _ _ us hl => match us, hl with | [_, _], _ => rfl) (fun d2 => ?_)
    (case a => k_is); (case l => k_is); (case c => k_is); (case k => k_is)
    refine' Tw.with_def (x := "_law_common") (st := K01.sCommon) (ps := ["_law_one", "_law_two"]) KX G ?a ?l ?c ?k (fun _ _ _ _ _ _ us hl => match us, hl with | [_, _], _ => rfl) (fun d3 => ?_)
    (case a => k_is); (case l => k_is); (case c => k_is); (case k => k_is)
    refine' Tw.with_def (x := "_law_lean") (st := K01.sLean) (ps := ["_law_top", "_law_base"]) KX G ?a ?l ?c ?k (fun _ _ _ _ _ _ us hl => match us, hl with | [_, _], _ => rfl) (fun d4 => ?_)
    (case a => k_is); (case l => k_is); (case c => k_is); (case k => k_is)
    refine' Tw.with_def (x := "_law_small") (st := K01.sSmall) (ps := ["_law_well_here"]) KX G ?a ?l ?c ?k (fun _ _ _ _ _ _ us hl => match us, hl with | [_], _ => rfl) (fun d5 => ?_)
    (case a => k_is); (case l => k_is); (case c => k_is); (case k => k_is)
    refine' Tw.with_def (x := "_law_part") (st := K01.sPart) (ps := ["_law_well_here"]) KX G ?a ?l ?c ?k (fun _ _ _ _ _ _ us hl => match us, hl with | [_], _ => rfl) (fun d6 => ?_)
    (case a => k_is); (case l => k_is); (case c => k_is); (case k => k_is)
    refine' Tw.with_def (x := "_law_odd") (st := K01.sOdd) (ps := ["_law_well_here"]) KX G ?a ?l ?c ?k (fun _ _ _ _ _ _ us hl => match us, hl with | [_], _ => rfl) (fun d7 => ?_)
    (case a => k_is); (case l => k_is); (case c => k_is); (case k => k_is)
    refine' Tw.with_def (x := "_law_bent") (st := K01.sBent) (ps := ["_law_well_here", "_law_thing"]) KX G ?a ?l ?c ?k (fun _ _ _ _ _ _ us hl => match us, hl with | [_, _], _ => rfl) (fun d8 => ?_)
    (case a => k_is); (case l => k_is); (case c => k_is); (case k => k_is)
    refine' Tw.with_def (x := "_law_spoilt") (st := K01.sSpoilt) (ps := ["_law_well_here", "_law_thing"]) KX G ?a ?l ?c ?k (fun _ _ _ _ _ _ us hl => match us, hl with | [_, _], _ => rfl) (fun d9 => ?_)
    (case a => k_is); (case l => k_is); (case c => k_is); (case k => k_is)
    refine' Tw.with_def (x := "_law_low") (st := K01.sLow) (ps := ["_law_spot", "_law_thing"]) KX G ?a ?l ?c ?k (fun _ _ _ _ _ _ us hl => match us, hl with | [_, _], _ => rfl) (fun d10 => ?_)
    (case a => k_is); (case l => k_is); (case c => k_is); (case k => k_is)
    refine' Tw.with_def (x := "_law_by_place") (st := K01.sPlace) (ps := ["_law_spot", "_law_thing"]) KX G ?a ?l ?c ?k (fun _ _ _ _ _ _ us hl => match us, hl with | [_, _], _ => rfl) (fun d11 => ?_)
    (case a => k_is); (case l => k_is); (case c => k_is); (case k => k_is)
    refine' Tw.with_def (x := "_law_low_name") (st := K01.sLowN) (ps := ["_law_spot", "_law_thing"]) KX G ?a ?l ?c ?k (fun _ _ _ _ _ _ us hl => match us, hl with | [_, _], _ => rfl) (fun d12 => ?_)
    (case a => k_is); (case l => k_is); (case c => k_is); (case k => k_is)
    refine' Tw.with_def (x := "_law_by_name") (st := K01.sByName) (ps := ["_law_spot", "_law_thing"]) KX G ?a ?l ?c ?k (fun _ _ _ _ _ _ us hl => match us, hl with | [_, _], _ => rfl) (fun d13 => ?_)
    (case a => k_is); (case l => k_is); (case c => k_is); (case k => k_is)
    refine' Tw.with_def (x := "_law_truths") (st := K01.sTruths) (ps := ["_law_error"]) KX G ?a ?l ?c ?k (fun _ _ _ _ _ _ us hl => match us, hl with | [_], _ => rfl) (fun d14 => ?_)
    (case a => k_is); (case l => k_is); (case c => k_is); (case k => k_is)
    refine' Tw.with_def (x := "_law_is_made") (st := K01.sMade) (ps := ["_law_at", "_law_thing", "_law_error"]) KX G ?a ?l ?c ?k (fun _ _ _ _ _ _ us hl => match us, hl with | [_, _, _], _ => rfl) (fun d15 => ?_)
    (case a => k_is); (case l => k_is); (case c => k_is); (case k => k_is)
    refine' Tw.with_def (x := "_law_right") (st := K01.sRight) (ps := ["_law_well_here"]) KX G ?a ?l ?c ?k (fun _ _ _ _ _ _ us hl => match us, hl with | [_], _ => rfl) (fun d16 => ?_)
    (case a => k_is); (case l => k_is); (case c => k_is); (case k => k_is)
    refine' Tw.with_def (x := "law") (st := K01.sLaw) (ps := ["_law_script"]) KX G ?a ?l ?c ?k (fun _ _ _ _ _ _ us hl => match us, hl with | [_], _ => rfl) (fun d17 => ?_)
    (case a => k_is); (case l => k_is); (case c => k_is); (case k => k_is)
    refine' Tw.with_no (x := "isinstance") KX G ?z (fun z0 => ?_)
    (case z => k_is)
    refine' Tw.with_no (x := "int") KX G ?z (fun z1 => ?_)
    (case z => k_is)
    refine' Tw.with_no (x := "bool") KX G ?z (fun z2 => ?_)
    (case z => k_is)
    refine' Tw.with_no (x := "tuple") KX G ?z (fun z3 => ?_)
    (case z => k_is)
    refine' Tw.with_no (x := "all") KX G ?z (fun z4 => ?_)
    (case z => k_is)
    refine' Tw.with_no (x := "len") KX G ?z (fun z5 => ?_)
    (case z => k_is)
    refine' Tw.with_no (x := "list") KX G ?z (fun z6 => ?_)
    (case z => k_is)
    refine' Tw.with_no (x := "divmod") KX G ?z (fun z7 => ?_)
    (case z => k_is)
    refine' Tw.with_no (x := "range") KX G ?z (fun z8 => ?_)
    (case z => k_is)
    refine' Tw.with_no (x := "max") KX G ?z (fun z9 => ?_)
    (case z => k_is)
    refine' Tw.with_no (x := "min") KX G ?z (fun z10 => ?_)
    (case z => k_is)
    refine' Tw.with_no (x := "abs") KX G ?z (fun z11 => ?_)
    (case z => k_is)
    refine' Tw.with_no (x := "repr") KX G ?z (fun z12 => ?_)
    (case z => k_is)
    refine' Tw.with_no (x := "reversed") KX G ?z (fun z13 => ?_)
    (case z => k_is)
    refine' Tw.with_no (x := "ValueError") KX G ?z (fun y0 => ?_)
    (case z => k_is)
    refine' Tw.with_no (x := "Exception") KX G ?z (fun y1 => ?_)
    (case z => k_is)
    refine' Tw.with_no (x := "LookupError") KX G ?z (fun y2 => ?_)
    (case z => k_is)
    refine' Tw.with_no (x := "TypeError") KX G ?z (fun y3 => ?_)
    (case z => k_is)
    refine' Tw.with_no (x := "ArithmeticError") KX G ?z (fun y4 => ?_)
    (case z => k_is)
    refine' Tw.with_no (x := "RuntimeError") KX G ?z (fun y5 => ?_)
    (case z => k_is)
    refine' Tw.with_no (x := "AttributeError") KX G ?z (fun y6 => ?_)
    (case z => k_is)
    have T := K01.txt_mk (by decide) t0 t1 t2 t3 t4 t5 t6 t7 t8 t9 t10 t11 t12 t13 t14 t15 t16 t17 t18 t19 m0 m1 m2 m3 m4 m5 m6 m7 m8 m9 m10 m11 m12 m13 m14 m15 m16 m17 m18 m19
    exact Tw.end_law d17 hmg (fun base => K01.whole ⟨z0, z1, z2, z3, z4, z5, z6, z7, z8, z9, z10, z11, z12, z13⟩ ⟨y0, y1, y2, y3, y4, y5, y6⟩ T d0 d1 d2 d3 d4 d5 d6 d7 d8 d9 d10 d11 d12 d13 d14 d15 d16 d17 base) (fun _ _ _ _ _ _ _ => rfl)
