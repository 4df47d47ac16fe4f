import PyProof.Rows.All
import Wide.All
import OpenK.AllK
import Wide.FinOn
import HandS.ForMost
import HandS.IsInst
import HandS.TupAny
import HandS.Flow
import HandS.Evl
import HandS.TupMul
import HandS.SortKw
import HandS.WideBits
import HandS.Gcd
import HandS.Rev
import HandS.Style
import KE.DataMinMax
import KE.GoesMore
import PyProof.Draws
import HandS.Dict
import HandS.TupLen
import KE.KDictKeyed
import KE.KDictCopyH
import KE.KDictList
import HandS.Deep
import HandS.More
import PyProof.ReprBulk
import PyProof.CallFns
import PyProof.ReprRoads
import PySem.Challenge.RW_twoletters_k43_whole_sayings_of_anything
set_option Elab.async false
set_option linter.all false
set_option maxRecDepth 100000
set_option maxHeartbeats 4000000
/-! a def's promise where no container is being written out (for repr) -/
namespace Tw
open PySem PySem.Spec PyProof.Rows L2

/-- nothing is being written out around here -/
abbrev Qt (A : Around) : Prop := A.guards = some []

structure FnG (P : Program) (w : World) (K : PySem.W.Frag) (mg : Str → Option Value) (base : Heap) (k : Nat) (f : Addr)
    (fd : FuncData) (ps : List Str) (sp : Sp) : Prop where
  many : ∀ vs H Q E, sp vs H Q E → vs.length = ps.length
  goes : ∀ (A : Around) (out : List Env) (s : Shared) (H : Hp) (g : Args) (us : List Value) (vs : List V) (Q : VK) (E : XK),
    Qt A → Room k A → Env0 P w K mg base A out s H → BindsTo s fd g (ps.zip us) → Vals vs us → sp vs H Q E →
    codeAny (model P w) A (.call (.ref f) g) (CR CX0 out P w H s Q E) s

section
variable {P : Program} {w : World} {K : PySem.W.Frag} {mg : Str → Option Value} {base : Heap} {k j : Nat} {f : Addr}
  {fd : FuncData} {ps : List Str} {sp : Sp}
theorem FnG.of (F : FnOk P w K mg base CX0 k f fd ps sp) : FnG P w K mg base k f fd ps sp :=
  ⟨F.len, fun A out s H g us vs Q E _ hr => F.run A out s H g us vs Q E hr⟩
theorem FnG.up (F : FnG P w K mg base j f fd ps sp) (h : j ≤ k) : FnG P w K mg base k f fd ps sp :=
  ⟨F.many, fun A out s H g us vs Q E hq hr => F.goes A out s H g us vs Q E hq (hr.mono h)⟩
theorem FnG.imp {sp' : Sp} (F : FnG P w K mg base k f fd ps sp) (h : ∀ vs H Q E, sp' vs H Q E → sp vs H Q E) :
    FnG P w K mg base k f fd ps sp' :=
  ⟨fun vs H Q E q => F.many vs H Q E (h _ _ _ _ q),
   fun A out s H g us vs Q E hq hr he hb hv hs => F.goes A out s H g us vs Q E hq hr he hb hv (h _ _ _ _ hs)⟩

/-- a def by its body, the place where it runs being quiet -/
theorem Fun.okG {x qual : Str} {st : Stmt} {N : List Str} (F : Fun K x qual st f fd) (S : FnScope N ps (defScope st))
    (many : ∀ vs H Q E, sp vs H Q E → vs.length = ps.length)
    (hbody : ∀ (cdv : Value) (A : Around) (out : List Env) (s : Shared) (H : Hp) (vs : List V) (Q : VK) (E : XK),
      Qt (A.deeper (envOfC qual (defScope st) s.heap.objs.size f cdv)) →
      Room k (A.deeper (envOfC qual (defScope st) s.heap.objs.size f cdv)) → sp vs H Q E →
      ∃ t, PSs (cxOf CX0 P w K mg base N qual (defScope st) f cdv A out s H E).nox (defBody st) t ∧
        t { nx := fun _ H' => Q .non H', rt := Q } (start N vs) H) : FnG P w K mg base (k + 1) f fd ps sp := by
  obtain ⟨oc, od, kV, doc, pm, an, cdv, ct, osl, rfl, lk, hcd⟩ := F.ex
  refine ⟨many, fun A out s H g us vs Q E hq hr e0 hb r hsp => ?_⟩
  have hlen : vs.length = ps.length := many _ _ _ _ hsp
  have inS : ∀ b o, base.get? b = some o → s.heap.get? b = some o := fun b o e => (e0.bs b o e).1
  have kx : K.In s.heap := e0.mod.kin.keeps inS
  have nolim : s.heap.NoLimit := e0.mod.nolimit.keeps inS
  have kinds : ∀ y ∈ ps.zip us, (defScope st).names.lookup y.1 = some .local ∨
      ((defScope st).names.lookup y.1 = some .cell ∧
        ((cellsFrom (s.heap.objs.size + 1) (defScope st).names []).lookup y.1).isSome = true) := by
    rintro ⟨n, v⟩ hy
    cases S.par n (List.of_mem_zip hy).1 with
    | inl q => exact Or.inl q
    | inr q => exact Or.inr ⟨q, PySem.W.cellsFrom_some _ _ _ (Or.inl q)⟩
  have rec1 := PySem.W.codeRec_of kx hcd
  refine codeAny_call_function hr.depth (kx _ _ lk) rfl S.co S.gen rfl rec1 (hb _ _ _ _ ?_)
  refine wpAny_newFunctionEnv_cells S.kind kinds fun env he s1 x => ?_
  subst he
  refine ⟨nolim.keeps x.toInCall.keep, codeAny_func ?_⟩
  have hq' : Qt (A.deeper (envOfC qual (defScope st) s.heap.objs.size f cdv)) := hq
  obtain ⟨t, ht, hw⟩ := hbody cdv A out s H vs Q E hq' (hr.deeper _) hsp
  have I := inv_start (CX := CX0) (cd := cdv) (E := E) (f := f) (qual := qual) S hr.hd e0 hlen r x
  refine wpAny_mono (ht.nox.run [] s1 (start N vs) H _ I hw) (fun fl s' hs => ?_) fun e s' hs => hs
  cases fl with
  | ret u => obtain ⟨v, σ', H', J, rv, q⟩ := hs; exact ⟨v, H', J.os, J.bare, J.base, J.hok, rv, q⟩
  | next => obtain ⟨σ', H', J, q⟩ := hs; exact ⟨V.non, H', J.os, J.bare, J.base, J.hok, rfl, q⟩
  | brk => obtain ⟨_, _, _, q⟩ := hs; exact q.elim
  | cont => obtain ⟨_, _, _, q⟩ := hs; exact q.elim
end

section
variable {X : Cx} {k : Nat} {f : Addr} {fd : FuncData} {ps : List Str} {sp : Sp} {x : Str} {p pos : Pos} {e : Expr}
  {es : List Expr} {t : TA}
/-- f(e, ..), f a def that wants quiet -/
theorem pe_callG (F : FnG X.prog X.w X.K X.mg X.base k f fd ps sp) (hq : Qt X.A) (hr : Room k X.A) (hg : Gl X x)
    (hm : X.mg x = some (.ref f)) (hk : PySem.W.keepIn X.K (.ref f) = true) (hb : Binds X.K fd ps [])
    (ha : PA X (e :: es) t) (hdb : (x == ("__debug__" : Str)) = false := by decide)
    (he : starEach (e :: es) X.env = (false, eval e X.env) :: starEach es X.env := by rfl)
    (hpl : (backTo pos (starEach es X.env)).any (·.1) = false := by rfl) :
    PE X (.Call (.Name x p) (e :: es) [] pos) (tCall sp [] E0 t) := by
  refine ⟨fun pins s σ H Q I h => wpAny_Call_Name_kw (ld_glob I hg hm ?_ hdb)⟩
  refine PySem.W.callWith_K (h₀ := X.base) I.ok.mod.kin hk ?_ he hpl
  refine thn (ha.run pos pins s σ H _ I h) ?_
  rintro us s1 ⟨vs, H1, I1, r, q⟩
  refine ⟨I1.kIn, wpAny_call ?_⟩
  have q' : sp vs H1 Q E0 := by simpa using q
  have hl : us.length = ps.length := by rw [← Vals.length r]; exact F.many _ _ _ _ q'
  have b := hb s1 us I1.kIn (by simpa using hl)
  rw [List.append_nil] at b
  refine codeAny_mono (F.goes X.A X.stack s1 H1 ⟨us, []⟩ us vs Q E0 hq hr I1.env0 b r q') fun r s' hh => ?_
  cases r with
  | error z => exact False.elim hh
  | ok fl =>
    cases fl with
    | ret u => exact I1.after hh
    | next => exact False.elim hh
    | brk => exact False.elim hh
    | cont => exact False.elim hh
end
end Tw

set_option Elab.async false
set_option linter.all false
set_option maxRecDepth 100000
set_option maxHeartbeats 4000000
/-! the end of a law whose def wants quiet -/
namespace Tw
open PySem PySem.Spec PyProof.Rows L2

/-- a promise wide enough that says nothing of exceptions, over a heap in which the script alone may be known -/
theorem law_quiet {P : Program} {w : World} {K : PySem.W.Frag} {mg mb : Str → Option Value} {k : Nat} {fa a : Addr} {fd : FuncData}
    {x : Str} {sp : Sp} {s₁ : Shared} {vs : List Value} {ns : List Int} (KX : K.In s₁.heap) (hns : s₁.heap.Ns mainGlobals mg)
    (hb : s₁.heap.Ns builtinsNs mb) (hbb : ∀ x : Str, x ≠ "__name__" → mb x = bootBuiltins x) (hlim : s₁.heap.NoLimit)
    (hg : s₁.gens = #[]) (ha : s₁.heap.get? a = some { cls := .type "list", data := .seq vs.toArray }) (hi : IntsAre vs ns)
    (hl : ns.length ≤ sizeLine) (hr : Room k callerA)
    (F : ∀ base : Heap, K.In base → base.Ns mainGlobals mg → FnG P w K mg base k fa fd [x] sp)
    (hbind : ∀ (s : Shared) (u : Value), BindsTo s fd ⟨[u], []⟩ [(x, u)])
    (hsp : ∀ H : Hp, Only H → SqL K H a (ns.map V.int) → sp [.ref a] H (fun v _ => v = .bl true) E0) :
    codeAny (model P w) callerA (.call (.ref fa) ⟨[.ref a], []⟩)
      (fun r s' => r = .ok (.ret (.bool true)) ∧ OldK s₁.heap s'.heap ∧ s'.os = s₁.os ∧ AllBare s'.gens) s₁ := by
  have hv := vals_ints hi
  have hn := hi.length
  have main : ∀ H : Hp, Only H → SqL K H a (ns.map V.int) → HOk P w H s₁.heap → (∀ b u, H b = some u → b = a ∧ K.lookup a = none) →
      codeAny (model P w) callerA (.call (.ref fa) ⟨[.ref a], []⟩)
        (fun r s' => r = .ok (.ret (.bool true)) ∧ OldK s₁.heap s'.heap ∧ s'.os = s₁.os ∧ AllBare s'.gens) s₁ := by
    intro H hO hS hok hA
    have dictFree : ∀ {b : Addr} {o : Obj} {es : Array DictEntry} {ep : Nat},
        s₁.heap.get? b = some o → o.data = .dict es ep → H b = none := by
      intro b o es ep e d
      cases q : H b with
      | none => rfl
      | some u =>
        obtain ⟨e1, _⟩ := hA b u q
        rw [e1, ha] at e
        injection e with e
        rw [← e] at d
        exact absurd d (by intro z; cases z)
    have nsB : ∀ {b : Addr} {m : Str → Option Value}, s₁.heap.Ns b m → (hidT s₁.heap H).Ns b m := by
      rintro b m ⟨o, es, ep, e, d, r⟩
      exact ⟨o, es, ep, hidT_get e (dictFree e d), d, r⟩
    have kB : K.In (hidT s₁.heap H) := by
      intro b o e
      refine hidT_get (KX b o e) ?_
      cases q : H b with
      | none => rfl
      | some u =>
        obtain ⟨e1, e2⟩ := hA b u q
        rw [e1, e2] at e
        cases e
    have hM : Mod K mg (hidT s₁.heap H) := by
      obtain ⟨mc, l1, l2⟩ := hlim
      exact ⟨kB, nsB hns, ⟨mb, nsB hb, hbb⟩, ⟨mc, nsB l1, l2⟩⟩
    have noB : ∀ b : Addr, b ∈ frs ([] : List Env) → False := fun b z => by simp [frs] at z
    have e0 : Env0 P w K mg (hidT s₁.heap H) callerA [] s₁ H :=
      ⟨rfl, hM, fun b o e => of_hidT e, Nat.le_of_eq (hidT_size _ _), trivial, fun b z => (noB b z).elim, hok, .of_eq hg⟩
    have go := (F _ kB (nsB hns)).goes callerA [] s₁ H ⟨[.ref a], []⟩ [.ref a] [.ref a] (fun v _ => v = .bl true) E0 rfl hr e0
      (hbind s₁ (.ref a)) (.cons rfl .nil) (hsp H hO hS)
    refine codeAny_mono go fun r s' h => ?_
    cases r with
    | error e => exact False.elim h
    | ok fl =>
      cases fl with
      | next => exact False.elim h
      | brk => exact False.elim h
      | cont => exact False.elim h
      | ret u =>
        obtain ⟨v, H', os, bare, un, hok', rv, q⟩ := h
        subst q
        cases (show u = Value.bool true from rv)
        refine ⟨rfl, OldK.of_keep fun b o e => ?_, os, bare⟩
        cases q : H b with
        | none => exact un.keep b o e q (fun z => noB b z) (by simp)
        | some u =>
          cases hO b with
          | inl z => rw [q] at z; cases z
          | inr z =>
            obtain ⟨ob, xs, z⟩ := z
            have f1 := (hok b _ z).1
            have f2 := (hok' b _ (un.frzs b ob _ z)).1
            rw [e] at f1
            rw [f2, ← f1]
  cases hk : K.lookup a with
  | some o =>
    have e := KX a o hk
    rw [ha] at e
    injection e with e
    subst e
    refine main (fun _ => none) (fun _ => Or.inl rfl) (Or.inr ⟨_, vs.toArray, _, hk, rfl, rfl, rfl, ?_, by simpa using hv⟩) ?_ ?_
    · rw [List.size_toArray, hn]; exact hl
    · intro b u z; exact absurd z (by intro y; cases y)
    · intro b u z; exact absurd z (by intro y; cases y)
  | none =>
    let Ha : Hp := fun b => if b = a then some (.frz { cls := .type "list", data := .seq vs.toArray } (.lst (ns.map V.int))) else none
    have ya : ∀ b, b = a → Ha b = some (.frz { cls := .type "list", data := .seq vs.toArray } (.lst (ns.map V.int))) := fun b h => if_pos h
    have na : ∀ b, b ≠ a → Ha b = none := fun b h => if_neg h
    refine main Ha (fun b => ?_) (Or.inl (Or.inr ⟨_, ya a rfl⟩)) (fun b u z => ?_) (fun b u z => ?_)
    · by_cases h : b = a
      · exact Or.inr ⟨_, _, ya b h⟩
      · exact Or.inl (na b h)
    · by_cases h : b = a
      · rw [ya b h] at z
        injection z with z
        subst z h
        exact ⟨ha, by rw [List.length_map]; exact hl, vs, _, hv, ha⟩
      · rw [na b h] at z; cases z
    · by_cases h : b = a
      · exact ⟨h, hk⟩
      · rw [na b h] at z; cases z

theorem walk_quiet {l : PySem.W.OpenLaw} {n k : Nat} {q : Program} {loose : List Str} {XP : (Str → Option Value) → Heap → Prop}
    {YP : World → Heap → Prop} {d : DefRec} {K : Params → PySem.W.Frag} {sp : PySem.W.Frag → Sp} {x : Str} (hn : l.most = some n)
    (hn2 : n ≤ sizeLine) (hdf : d.params.defaults = []) (hr : Room k callerA)
    (hY : ∀ (w : World) (h : Heap), YP w h → (K w.params).In h)
    (F : ∀ (w : World) (mg : Str → Option Value) (fa : Addr) (h : Heap), (K w.params).In h → h.Ns mainGlobals mg →
      mg d.name = some (.ref fa) → ∃ fd : FuncData, (∀ (s : Shared) (u : Value), BindsTo s fd ⟨[u], []⟩ [(x, u)]) ∧
        ∀ base : Heap, (K w.params).In base → base.Ns mainGlobals mg → FnG l.prog w (K w.params) mg base k fa fd [x] (sp (K w.params)))
    (hsp : ∀ (K : PySem.W.Frag) (H : Hp) (a : Addr) (ns : List Int), ns.length ≤ n → Only H → SqL K H a (ns.map V.int) →
      sp K [.ref a] H (fun v _ => v = .bl true) E0) :
    PySem.W.WalkO q loose XP YP l.row.toRowW d [] (fun f vs => PySem.call f vs) := by
  refine Att.attach_call hn hdf ?_
  intro w s₀ s₁ mg mb fa o pm cd doc a vs ns G Y ho hd hcd hmg hobj hints hlen hg
  have kx := hY w _ Y
  obtain ⟨fd, hb, hF⟩ := F w mg fa _ kx G.T.g hmg
  exact law_quiet kx G.T.g G.T.b G.T.builtins G.T.nolimit hg hobj hints (Nat.le_trans hlen hn2) hr hF hb
    fun H hO hS => hsp _ H a ns hlen hO hS
end Tw

set_option Elab.async false
set_option linter.all false
set_option maxRecDepth 100000
set_option maxHeartbeats 4000000
/-! data: what a value is, over the heap; the well at a -/
namespace Tw
open PySem PySem.Spec PyProof.Rows L2

/-- all that was known is known, but for what stands at a -/
def Kp (a : Addr) (H H' : Hp) : Prop := ∀ b o, b ≠ a → H b = some o → H' b = some o
/-- the well: a list of three ints -/
def We (a : Addr) (H : Hp) : Prop := ∃ x y z : Int, H a = some (.lst [.int x, .int y, .int z])
theorem Kp.refl (a : Addr) (H : Hp) : Kp a H H := fun _ _ _ h => h
theorem Kp.trans {a : Addr} {H H1 H2 : Hp} (x : Kp a H H1) (y : Kp a H1 H2) : Kp a H H2 := fun b o n h => y b o n (x b o n h)
theorem Kp.of {a : Addr} {H H' : Hp} (x : Same H H') : Kp a H H' := fun b o _ h => x b o h
theorem We.to {a : Addr} {H H' : Hp} (x : Same H H') (w : We a H) : We a H' := by
  obtain ⟨i, j, k, h⟩ := w
  exact ⟨i, j, k, x _ _ h⟩
theorem We.ne {a p : Addr} {H : Hp} (w : We a H) (h : H p = none) : p ≠ a := by
  obtain ⟨i, j, k, e⟩ := w
  exact fun z => by rw [z, e] at h; cases h
theorem We.some {a : Addr} {H : Hp} (w : We a H) : H a ≠ none := by
  obtain ⟨i, j, k, e⟩ := w
  rw [e]
  exact fun z => by cases z
theorem same_new {H : Hp} {p : Addr} {o : HO} (h : H p = none) : Same H (upd H p o) := fun b u e => by
  rw [upd_ne (ne_of_none e h)]; exact e
theorem kp_new {a : Addr} {H : Hp} {p : Addr} {o : HO} (h : H p = none) : Kp a H (upd H p o) := Kp.of (same_new h)
theorem we_new {a : Addr} {H : Hp} {p : Addr} {o : HO} (w : We a H) (h : H p = none) : We a (upd H p o) := w.to (same_new h)
theorem sz {n : Nat} (h : n ≤ 100000) : n ≤ sizeLine := Nat.le_trans h (by decide)

mutual
/-- the value is the datum; nothing of it is the well -/
inductive Da (a : Addr) (H : Hp) : V → PyData → Prop
  | non : Da a H .non .none
  | bl (b : Bool) : Da a H (.bl b) (.bool b)
  | int (i : Int) : Da a H (.int i) (.int i)
  | str (x : Str) : Da a H (.str x) (.str x)
  | lst {p : Addr} {xs : List V} {ds : List PyData} : p ≠ a → H p = some (.lst xs) → DaAll a H xs ds → Da a H (.ref p) (.list ds)
  | tup {p : Addr} {xs : List V} {ds : List PyData} : p ≠ a → H p = some (.tup xs) → DaAll a H xs ds → Da a H (.ref p) (.tuple ds)
  | dct {p : Addr} : p ≠ a → H p = some (.dK []) → Da a H (.ref p) (.dict [])
inductive DaAll (a : Addr) (H : Hp) : List V → List PyData → Prop
  | nil : DaAll a H [] []
  | cons {v : V} {vs : List V} {d : PyData} {ds : List PyData} : Da a H v d → DaAll a H vs ds → DaAll a H (v :: vs) (d :: ds)
end
section
variable {a : Addr} {H H' : Hp}
mutual
theorem Da.kp (k : Kp a H H') : ∀ {v : V} {d : PyData}, Da a H v d → Da a H' v d
  | _, _, .non => .non
  | _, _, .bl b => .bl b
  | _, _, .int i => .int i
  | _, _, .str x => .str x
  | _, _, .lst n h t => .lst n (k _ _ n h) (DaAll.kp k t)
  | _, _, .tup n h t => .tup n (k _ _ n h) (DaAll.kp k t)
  | _, _, .dct n h => .dct n (k _ _ n h)
theorem DaAll.kp (k : Kp a H H') : ∀ {vs : List V} {ds : List PyData}, DaAll a H vs ds → DaAll a H' vs ds
  | _, _, .nil => .nil
  | _, _, .cons h t => .cons (Da.kp k h) (DaAll.kp k t)
end
theorem Da.same (s : Same H H') {v : V} {d : PyData} (h : Da a H v d) : Da a H' v d := h.kp (Kp.of s)
theorem DaAll.same (s : Same H H') {v : List V} {d : List PyData} (h : DaAll a H v d) : DaAll a H' v d := h.kp (Kp.of s)
theorem DaAll.len : ∀ {vs : List V} {ds : List PyData}, DaAll a H vs ds → vs.length = ds.length
  | _, _, .nil => rfl
  | _, _, .cons _ t => congrArg Nat.succ t.len
theorem DaAll.get : ∀ {vs : List V} {ds : List PyData} {i : Nat} {v : V}, DaAll a H vs ds → vs[i]? = some v → ∃ d, ds[i]? = some d ∧ Da a H v d
  | _, _, _, _, .nil, h => by simp at h
  | _, _, 0, _, .cons h _, e => by simp at e; subst e; exact ⟨_, rfl, h⟩
  | _, _, i + 1, _, .cons _ t, e => by
    obtain ⟨d, h1, h2⟩ := t.get (i := i) (by simpa using e)
    exact ⟨d, by simpa using h1, h2⟩
theorem DaAll.append : ∀ {vs ws : List V} {ds es : List PyData}, DaAll a H vs ds → DaAll a H ws es → DaAll a H (vs ++ ws) (ds ++ es)
  | _, _, _, _, .nil, t => t
  | _, _, _, _, .cons h t, u => .cons h (t.append u)
theorem DaAll.drop : ∀ {vs : List V} {ds : List PyData} (n : Nat), DaAll a H vs ds → DaAll a H (vs.drop n) (ds.drop n)
  | _, _, 0, h => h
  | _, _, _ + 1, .nil => .nil
  | _, _, n + 1, .cons _ t => t.drop n
theorem DaAll.take : ∀ {vs : List V} {ds : List PyData} (n : Nat), DaAll a H vs ds → DaAll a H (vs.take n) (ds.take n)
  | _, _, 0, _ => .nil
  | _, _, _ + 1, .nil => .nil
  | _, _, n + 1, .cons h t => .cons h (t.take n)
theorem DaAll.rev : ∀ {vs : List V} {ds : List PyData}, DaAll a H vs ds → DaAll a H vs.reverse ds.reverse
  | _, _, .nil => .nil
  | _, _, .cons h t => by
    rw [List.reverse_cons, List.reverse_cons]
    exact t.rev.append (.cons h .nil)
/-- a slice of the values, of the data -/
def cutD (ds : List PyData) (lo hi : Option Int) : List PyData := (ds.drop (HT.sIx ds.length 0 lo)).take (HT.sIx ds.length ds.length hi - HT.sIx ds.length 0 lo)
theorem DaAll.cut {vs : List V} {ds : List PyData} (lo hi : Option Int) (h : DaAll a H vs ds) : DaAll a H (cutV vs lo hi) (cutD ds lo hi) := by
  unfold cutV cutD
  rw [h.len]
  exact (h.drop _).take _

mutual
theorem Da.dp {K : PySem.W.Frag} : ∀ {v : V} {d : PyData}, Da a H v d → d.canLay0 = true → Dp K H v d
  | _, _, .non, _ => .non
  | _, _, .bl b, _ => .bl b
  | _, _, .int i, _ => .int i
  | _, _, .str x, _ => .str x
  | _, _, .lst n h t, c => .lst (SqL.of h) (DaAll.dp t (by simpa [PyData.canLay0] using c))
  | _, _, .tup n h t, c => .tup (SqT.of h) (DaAll.dp t (by simpa [PyData.canLay0] using c))
  | _, _, .dct n h, c => by simp [PyData.canLay0] at c
theorem DaAll.dp {K : PySem.W.Frag} : ∀ {vs : List V} {ds : List PyData}, DaAll a H vs ds → PyData.canLayAll0 ds = true → DpAll K H vs ds
  | _, _, .nil, _ => .nil
  | _, _, .cons (d := d) (ds := ds) h t, c => by
    have c' : d.canLay0 = true ∧ PyData.canLayAll0 ds = true := by simpa [PyData.canLayAll0] using c
    exact .cons (Da.dp h c'.1) (DaAll.dp t c'.2)
end
end

/-! ### written data -/
mutual
def litOf : Expr → Option PyData
  | .Constant c _ _ => match c with
    | .none => some .none
    | .bool b => some (.bool b)
    | .int i => some (.int i)
    | .str x => some (.str x)
    | _ => none
  | .UnaryOp .USub (.Constant (.int i) _ _) _ => some (.int (-i))
  | .BinOp (.Constant (.int i) _ _) .Pow (.Constant (.int j) _ _) _ => if 0 ≤ j ∧ j ≤ 1000 ∧ i.natAbs < 1000 then some (.int (i ^ j.toNat)) else none
  | .Tuple es _ _ => match litsOf es with
    | some ds => if ds.length ≤ 1000 then some (.tuple ds) else none
    | none => none
  | .List es _ => match litsOf es with
    | some ds => if ds.length ≤ 1000 then some (.list ds) else none
    | none => none
  | .Dict [] [] _ => some (.dict [])
  | _ => none
def litsOf : List Expr → Option (List PyData)
  | [] => some []
  | e :: es => match litOf e, litsOf es with
    | some d, some ds => some (d :: ds)
    | _, _ => none
end
theorem _root_.L2.PE.weak {X : Cx} {e : Expr} {t t' : TE} (h : PE X e t) (k : ∀ σ H Q, t' σ H Q → t σ H Q) : PE X e t' := ⟨fun p s σ H Q I q => h.run p s σ H Q I (k σ H Q q)⟩
theorem _root_.L2.PA.weak {X : Cx} {e : List Expr} {t t' : TA} (h : PA X e t) (k : ∀ σ H Q, t' σ H Q → t σ H Q) : PA X e t' := ⟨fun o p s σ H Q I q => h.run o p s σ H Q I (k σ H Q q)⟩
/-- a new datum; a is any known place -/
def tLit (d : PyData) : TE := fun _ H Q => ∃ a, H a ≠ none ∧ ∀ v H', Same H H' → Da a H' v d → Q v H'
def tLits (ds : List PyData) : TA := fun _ H Q => ∃ a, H a ≠ none ∧ ∀ vs H', Same H H' → DaAll a H' vs ds → Q vs H'
theorem same_some {H H' : Hp} {a : Addr} (s : Same H H') (h : H a ≠ none) : H' a ≠ none := by
  cases e : H a with
  | none => exact absurd e h
  | some o => rw [s a o e]; exact fun z => by cases z
theorem new_ne {H : Hp} {a p : Addr} (h : H a ≠ none) (n : H p = none) : p ≠ a := fun z => h (by rw [← z]; exact n)
theorem star_lit {e : Expr} {es : List Expr} {env : Env} {d : PyData} (h : litOf e = some d) : starEach (e :: es) env = (false, eval e env) :: starEach es env := by
  cases e <;> first | rfl | (simp [litOf] at h)
section
variable {X : Cx}
mutual
theorem pe_lit : ∀ (e : Expr) {d : PyData}, litOf e = some d → PE X e (tLit d)
  | .Constant .none _ _, _, h => by
    have e := Option.some.inj h; subst e
    exact pe_non.weak fun σ H Q ⟨a, _, q⟩ => q _ _ (Same.refl H) .non
  | .Constant (.bool b) _ _, _, h => by
    have e := Option.some.inj h; subst e
    exact pe_bl.weak fun σ H Q ⟨a, _, q⟩ => q _ _ (Same.refl H) (.bl b)
  | .Constant (.int i) _ _, _, h => by
    have e := Option.some.inj h; subst e
    exact pe_int.weak fun σ H Q ⟨a, _, q⟩ => q _ _ (Same.refl H) (.int i)
  | .Constant (.str x) _ _, _, h => by
    have e := Option.some.inj h; subst e
    exact pe_str.weak fun σ H Q ⟨a, _, q⟩ => q _ _ (Same.refl H) (.str x)
  | .UnaryOp .USub (.Constant (.int i) _ _) _, _, h => by
    have e := Option.some.inj h; subst e
    exact (pe_un un_neg pe_int).weak fun σ H Q ⟨a, _, q⟩ => ⟨i, rfl, q _ _ (Same.refl H) (.int (-i))⟩
  | .BinOp (.Constant (.int i) _ _) .Pow (.Constant (.int j) _ _) _, d, h => by
    simp only [litOf] at h
    split at h
    · rename_i c
      have e := Option.some.inj h; subst e
      refine (pe_op op_pow pe_int pe_int).weak fun σ H Q ⟨a, _, q⟩ => ⟨i, j, rfl, rfl, ⟨c.1, by have := c.2.1; omega, by have := c.2.2; omega⟩, q _ _ (Same.refl H) (.int _)⟩
    · cases h
  | .Tuple es _ _, d, h => by
    simp only [litOf] at h
    split at h
    · rename_i ds hd
      split at h
      · rename_i c
        have e := Option.some.inj h; subst e
        refine (pe_tup (pa_lits es hd)).weak fun σ H Q ⟨a, n, q⟩ => ⟨a, n, fun vs H1 s1 d1 => ⟨sz (by rw [d1.len]; omega), fun p hp => ?_⟩⟩
        have s2 := same_new (o := .tup vs) hp
        exact q _ _ (s1.trans s2) (.tup (new_ne (same_some s1 n) hp) upd_same (d1.same s2))
      · cases h
    · cases h
  | .List es _, d, h => by
    simp only [litOf] at h
    split at h
    · rename_i ds hd
      split at h
      · rename_i c
        have e := Option.some.inj h; subst e
        refine (pe_lst (pa_lits es hd)).weak fun σ H Q ⟨a, n, q⟩ => ⟨a, n, fun vs H1 s1 d1 => ⟨sz (by rw [d1.len]; omega), fun p hp => ?_⟩⟩
        have s2 := same_new (o := .lst vs) hp
        exact q _ _ (s1.trans s2) (.lst (new_ne (same_some s1 n) hp) upd_same (d1.same s2))
      · cases h
    · cases h
  | .Dict [] [] _, d, h => by
    have e := Option.some.inj h; subst e
    refine pe_dnewK.weak fun σ H Q ⟨a, n, q⟩ => fun p hp => ?_
    exact q _ _ (same_new hp) (.dct (new_ne n hp) upd_same)
theorem pa_lits : ∀ (es : List Expr) {ds : List PyData}, litsOf es = some ds → PA X es (tLits ds)
  | [], _, h => by
    have e := Option.some.inj h; subst e
    exact pa_nil.weak fun σ H Q ⟨a, _, q⟩ => q _ _ (Same.refl H) .nil
  | e :: es, ds, h => by
    simp only [litsOf] at h
    split at h
    · rename_i d ds' hd hds
      have z := Option.some.inj h; subst z
      refine (pa_cons (pe_lit e hd) (pa_lits es hds) (star_lit hd)).weak fun σ H Q ⟨a, n, q⟩ => ⟨a, n, fun v H1 s1 d1 => ⟨a, same_some s1 n, fun vs H2 s2 d2 => ?_⟩⟩
      exact q _ _ (s1.trans s2) (.cons (d1.same s2) d2)
    · cases h
end
end
end Tw

set_option Elab.async false
set_option linter.all false
set_option maxRecDepth 100000
set_option maxHeartbeats 4000000
/-! rules: texts of data, a tuple beside the empty one, a tuple turned round, kinds of data -/
namespace Tw
open PySem PySem.Spec PyProof.Rows L2
section
variable {X : Cx}

/-- repr of a list, a tuple -/
def rShow (K : PySem.W.Frag) : List V → Hp → VK → Prop := fun xs H Q =>
  ∃ p d, xs = [.ref p] ∧ Dp K H (.ref p) d ∧ SeqAt.shaped d = true ∧ d.showable = true ∧ d.shown.length ≤ sizeLine ∧ Q (.str d.shown) H
theorem noDict_of {d : PyData} (h : SeqAt.shaped d = true) : d.hasDict = false := by
  have c := SeqAt.canLay_of_shaped h
  exact PyData.hasDict_of_canLay d c
theorem call_show (hq : Qt X.A) (hu : X.A.units + 70 < cLine) : CallR X (.builtin "repr") (rShow X.K) := by
  intro pins s σ H xs us Q I r h
  obtain ⟨p, d, rfl, hd, hs, hw, hz, q⟩ := h
  obtain ⟨u, rfl, rx⟩ := vals1 r
  obtain ⟨as, rd⟩ := Dp.reads I d _ u hd rx
  cases rx
  have dp := SeqAt.depth_of_shaped hs
  refine repr_of_reads' rd hw (fun z => ?_) hq (by omega) (fun _ _ e => e) (fun h' t k keep => ?_) hz
  · rw [noDict_of hs] at z; cases z
  · exact ⟨.str d.shown, H, I.kept keep, ⟨_, rfl⟩, q⟩

/-- a tuple beside an empty one -/
def rT0 (ne : Bool) (K : PySem.W.Frag) : R2 := fun x y H Q =>
  ∃ a b xs ys, x = .ref a ∧ y = .ref b ∧ SqT K H a xs ∧ SqT K H b ys ∧ ys = [] ∧ Q (.bl (if ne then !xs.isEmpty else xs.isEmpty)) H
theorem t0_val {xs : List V} {its its2 : List Value} (r1 : Vals xs its) (r2 : Vals [] its2) :
    ((List.range (min its.toArray.size its2.toArray.size)).all (fun _ => true) && its.toArray.size == its2.toArray.size) = xs.isEmpty := by
  cases r2
  cases r1 with
  | nil => rfl
  | cons _ _ => simp
theorem op_eqT0 (hu : X.A.units + 64 < cLine) : OpR X (compareOp .Eq) (rT0 false X.K) := by
  intro pins s σ H x y v u Q I rx ry h
  obtain ⟨a, b, xs, ys, rfl, rfl, ha, hb, rfl, q⟩ := h
  cases rx
  cases ry
  obtain ⟨its, r1, p1, _⟩ := I.tuple ha
  obtain ⟨its2, r2, p2, _⟩ := I.tuple hb
  refine SeqAt.RcAt.tuples (e := fun _ => true) p1 p2 (by omega) (fun j h1 h2 => ?_) _ _ _ _ ⟨.bl xs.isEmpty, H, I, ?_, q⟩
  · cases r2
    exact absurd h2 (by simp)
  · show Value.bool _ = Value.bool _
    rw [t0_val r1 r2]
theorem op_neT0 (hu : X.A.units + 64 < cLine) : OpR X (compareOp .NotEq) (rT0 true X.K) := by
  intro pins s σ H x y v u Q I rx ry h
  obtain ⟨a, b, xs, ys, rfl, rfl, ha, hb, rfl, q⟩ := h
  cases rx
  cases ry
  obtain ⟨its, r1, p1, _⟩ := I.tuple ha
  obtain ⟨its2, r2, p2, _⟩ := I.tuple hb
  refine SeqAt.RcNeAt.tuples (e := fun _ => true) p1 p2 (by omega) (fun j h1 h2 => ?_) _ _ _ _ ⟨.bl (!xs.isEmpty), H, I, ?_, q⟩
  · cases r2
    exact absurd h2 (by simp)
  · show Value.bool _ = Value.bool _
    rw [t0_val r1 r2]

/-! ### t[::-1] -/
theorem applied_rev {prog : Program} {w : World} {A : Around} {E : Value → Shared → Prop} {s : Shared} {sl : Addr} {vl vu vs : Value} {n : Nat} {Q : Int × Int × Nat → Shared → Prop}
    (hs : s.heap.IsSliceOf sl vl vu vs) (pl : IsPart vl none) (pu : IsPart vu none) (pt : IsPart vs (some (-1))) (h : Q ((n : Int) - 1, -1, n) s) :
    wpAny (model prog w) A (Builtin.Slice.sliceApplied (.ref sl) (pure (n : Int))) Q E s := by
  obtain ⟨ob, e1, e2, e3⟩ := id hs
  unfold Builtin.Slice.sliceApplied Builtin.Slice.sliceFields
  refine wpAny_bind (wpAny_bind (wpAny_field e1 e3 (x := vl) rfl ?_))
  refine wpAny_bind (wpAny_field e1 e3 (x := vu) rfl ?_)
  refine wpAny_bind (wpAny_field e1 e3 (x := vs) rfl (wpAny_pure ?_))
  refine wpAny_bind (HT.slicePart_ pt ?_)
  show wpAny _ _ (if ((-1 : Int) == 0) = true then _ else _) _ _ s
  rw [if_neg (by decide)]
  refine wpAny_bind (HT.slicePart_ pl ?_)
  refine wpAny_bind (HT.slicePart_ pu (wpAny_bind (wpAny_pure (wpAny_pure ?_))))
  have ep : Builtin.Slice.slicePlaces ((n : Int) - 1) (-1) (-1) = n := by
    unfold Builtin.Slice.slicePlaces
    have c1 : ¬ ((-1 : Int) > 0) := by decide
    simp only [c1, if_false]
    by_cases c : (n : Int) - 1 > -1
    · simp only [c, if_true]
      have : ((n : Int) - 1 - -1 - 1) / (- -1) = (n : Int) - 1 := by
        rw [show (- -1 : Int) = 1 by decide, Int.ediv_one]; omega
      omega
    · simp only [c, if_false]
      omega
  show Q (_, (-1 : Int), Builtin.Slice.slicePlaces ((n : Int) - 1) (-1) (-1)) s
  rw [ep]
  exact h
theorem fm_congr {α β : Type} {f g : α → Option β} : ∀ (l : List α), (∀ k ∈ l, f k = g k) → l.filterMap f = l.filterMap g
  | [], _ => rfl
  | k :: l, h => by
    rw [List.filterMap_cons, List.filterMap_cons, h k (by simp), fm_congr l fun j hj => h j (by simp [hj])]
theorem pick_rev (xs : Array Value) : ((List.range xs.size).filterMap fun (k : Nat) => xs[(((xs.size : Int) - 1) + (k : Int) * (-1)).toNat]?).toArray = xs.toList.reverse.toArray := by
  congr 1
  have e : (List.range xs.size).filterMap (fun (k : Nat) => xs[(((xs.size : Int) - 1) + (k : Int) * (-1)).toNat]?) = ((List.range xs.size).map fun k => xs.size - 1 - k).filterMap (xs[·]?) := by
    rw [List.filterMap_map]
    refine fm_congr _ fun k hk => ?_
    have hlt := List.mem_range.mp hk
    have e : (((xs.size : Int) - 1) + (k : Int) * (-1)).toNat = xs.size - 1 - k := by omega
    show xs[(((xs.size : Int) - 1) + (k : Int) * (-1)).toNat]? = xs[xs.size - 1 - k]?
    rw [e]
  rw [e, PySem.W.krv_range, List.filterMap_reverse, PySem.W.krv_all]
theorem getItem_rev {prog : Program} {w : World} {A : Around} {E : Value → Shared → Prop} {s : Shared} {t sl : Addr} {items : Array Value} {vl vu vs : Value} {Q : Value → Shared → Prop}
    (ht : IsTup s.heap t items) (hs : s.heap.IsSliceOf sl vl vu vs) (pl : IsPart vl none) (pu : IsPart vu none) (pt : IsPart vs (some (-1))) (hz : items.size ≤ sizeLine)
    (h : Q (.ref s.heap.objs.size) { s with heap := s.heap.push { cls := .type "tuple", data := .seq items.toList.reverse.toArray } }) :
    wpAny (model prog w) A (getItem (.ref t) (.ref sl)) Q E s := by
  have ty : s.TypeIs (.ref sl) "slice" := by obtain ⟨ob, e1, e2, e3⟩ := id hs; exact ⟨ob, e1, e2⟩
  have ok : sizeOk (.seq items.toList.reverse.toArray) := by
    show items.toList.reverse.toArray.size ≤ sizeLine
    simpa using hz
  unfold getItem
  (try with_reducible refine wpAny_holding ?_); (first | refine wpAny_bind (wpAny_pure ?_) | skip)
  refine wpAny_bind (wpAny_sequenceKey ht.typeIs (by decide) ?_)
  have sg := PyProof.Rows.slot_tuple_getitem
  refine wpAny_bind (wpAny_callSpecial?_slot (name := Str.ofString "__getitem__") ht.typeIs sg ?_)
  refine wpAny_call_entry sg ht.typeIs entry_tuple_getitem ?_ (args_tuple_getitem _ _)
  refine (show wpAny _ _ (Builtin.Tuple.tupleItemsOf (.ref t) >>= _) _ _ s from ?_)
  refine wpAny_bind (tupleItemsOf_ ht (wpAny_bind (wpAny_typeOf ty ?_)))
  rw [if_pos (by decide)]
  refine wpAny_bind (applied_rev hs pl pu pt ?_)
  have no : ¬ (((items.size : Int) - 1 == 0 && (-1 : Int) == 1 && items.size == items.size) = true) := by simp
  show wpAny _ _ (if ((items.size : Int) - 1 == 0 && (-1 : Int) == 1 && items.size == items.size) = true then _ else _) _ _ s
  rw [if_neg no, pick_rev]
  first
    | exact wpAny_bind (wpAny_bind (m := Builtin.Tuple.tupleExact _) (wpAny_newObj_type (wpAny_pure ⟨_, rfl, wpAny_pure h⟩) ok))
    | exact wpAny_bind (m := Builtin.Tuple.tupleExact _) (wpAny_newObj_type (wpAny_pure ⟨_, rfl, wpAny_pure h⟩) ok)
    | exact wpAny_bind (m := Builtin.Tuple.tupleExact _) (wpAny_newObj_type (wpAny_bind (wpAny_pure (wpAny_pure ⟨_, rfl, wpAny_pure h⟩))) ok)
    | exact wpAny_bind (wpAny_bind (m := Builtin.Tuple.tupleExact _) (wpAny_newObj_type (wpAny_pure (wpAny_pure ⟨_, rfl, wpAny_pure h⟩)) ok))
def tRevT (K : PySem.W.Frag) (te : TE) : TE := fun σ H Q => te σ H fun x H1 => ∃ a xs, x = .ref a ∧ SqT K H1 a xs ∧ ∀ p, H1 p = none → Q (.ref p) (upd H1 p (.tup xs.reverse))
theorem pe_revT {e : Expr} {te : TE} {k : Nat} {p1 p2 p3 pos : Pos} (he : PE X e te) :
    PE X (.Subscript e (.Slice none none (some (.UnaryOp .USub (.Constant (.int 1) k p1) p2)) p3) pos) (tRevT X.K te) := by
  refine ⟨fun pins s σ H Q I h => Subscript_ (thn (he.run pins s σ H _ I h) ?_)⟩
  rintro v s1 ⟨x, H1, I1, r1, a, xs, ex, hx, q⟩
  subst ex
  cases r1
  have step : PO X (some (.UnaryOp .USub (.Constant (.int 1) k p1) p2)) (tPart (tUn (rU fun i => .int (-i)) (tC (.int 1)))) := po_some (pe_un un_neg pe_int)
  refine wpAny_Slice (thn (po_none.run pins s1 σ H1 (fun o G => o = none ∧ G = H1) I1 ⟨rfl, rfl⟩) ?_)
  rintro vl s2 ⟨l, G2, I2, pl, rfl, rfl⟩
  refine thn (po_none.run pins s2 σ G2 (fun o G => o = none ∧ G = G2) I2 ⟨rfl, rfl⟩) ?_
  rintro vu s3 ⟨l3, G3, I3, pu, rfl, rfl⟩
  refine thn (step.run pins s3 σ G3 (fun o G => o = some (-1) ∧ G = G3) I3 ⟨1, rfl, -1, rfl, rfl, rfl⟩) ?_
  rintro vs s4 ⟨l4, G4, I4, pt, rfl, rfl⟩
  have I5 := I4.kept (h' := s4.heap.push { cls := .type "slice", data := .fields #[vl, vu, vs] }) (t' := s4.toks) fun b ob z => Heap.get?_push_of_some _ z
  obtain ⟨its, r, ht, hz⟩ := I5.tuple hx
  have hl := r.length
  refine tail_any (ops := [.ref a, .ref s4.heap.objs.size]) ht.typeIs PyProof.Rows.slot_tuple_getitem.lookup ?_ (by with_unfolding_all rfl)
  refine getItem_rev ht (Heap.IsSliceOf.new _ vl vu vs) pl pu pt (by rw [List.size_toArray]; omega) ?_
  have J := I5.laid (t' := s4.toks) (o := .tup xs.reverse) (fun b ob z => Heap.get?_push_of_some _ z) (Nat.le_refl _)
    ⟨by rw [List.length_reverse]; exact hz, its.reverse, Vals.reverse r, IsTup.new _ _⟩
  exact ⟨.ref _, _, J, rfl, q _ (I5.hok.fresh (Nat.le_refl _))⟩
end

/-! ### kinds -/
def kindOf : PyData → String
  | .none => "NoneType"
  | .bool _ => "bool"
  | .int _ => "int"
  | .str _ => "str"
  | .list _ => "list"
  | .tuple _ => "tuple"
  | .dict _ => "dict"
theorem Da.ty {a : Addr} {H : Hp} {K : PySem.W.Frag} : ∀ {v : V} {d : PyData}, Da a H v d → TyX K H v (.type (kindOf d))
  | _, _, .non => .base .non
  | _, _, .bl b => .base (.bl b)
  | _, _, .int i => .base (.int i)
  | _, _, .str x => .base (.str x)
  | _, _, .lst _ h _ => .base (.lst h)
  | _, _, .tup _ h _ => .base (.tup h)
  | _, _, .dct _ h => .base (.dK h)
end Tw

set_option Elab.async false
set_option linter.all false
set_option maxRecDepth 100000
set_option maxHeartbeats 4000000
/-! defs of the text, and calls of them by name -/
namespace Tw
open PySem PySem.Spec PyProof.Rows L2

/-- the def st stands at the name x -/
def Def (K : PySem.W.Frag) (mg : Str → Option Value) (x : Str) (st : Stmt) (ps : List Str) : Prop :=
  ∃ f fd, Fun K x x st f fd ∧ mg x = some (.ref f) ∧ Binds K fd ps []
/-- f is a def, fd -/
def FdAt (K : PySem.W.Frag) (f : Addr) (fd : FuncData) : Prop := ∃ oc od osl, K.lookup f = some ⟨oc, od, .func fd, osl⟩
theorem fdAt {K : PySem.W.Frag} {x q : Str} {st : Stmt} {f : Addr} {fd : FuncData} (F : Fun K x q st f fd) : FdAt K f fd := by
  obtain ⟨oc, od, _, _, _, _, _, _, osl, _, lk, _⟩ := F.ex
  exact ⟨oc, od, osl, lk⟩
/-- what stands at the name x keeps the promise -/
def Cal (P : Program) (w : World) (K : PySem.W.Frag) (mg : Str → Option Value) (base : Heap) (x : Str) (k : Nat) (ps : List Str) (sp : Sp) : Prop :=
  ∃ f fd, FnOk P w K mg base CX0 k f fd ps sp ∧ mg x = some (.ref f) ∧ PySem.W.keepIn K (.ref f) = true ∧ Binds K fd ps [] ∧ FdAt K f fd
def CalG (P : Program) (w : World) (K : PySem.W.Frag) (mg : Str → Option Value) (base : Heap) (x : Str) (k : Nat) (ps : List Str) (sp : Sp) : Prop :=
  ∃ f fd, FnG P w K mg base k f fd ps sp ∧ mg x = some (.ref f) ∧ PySem.W.keepIn K (.ref f) = true ∧ Binds K fd ps [] ∧ FdAt K f fd
section
variable {P : Program} {w : World} {K : PySem.W.Frag} {mg : Str → Option Value} {base : Heap} {x : Str} {st : Stmt} {ps N : List Str} {k : Nat} {sp : Sp}
theorem Def.ok (D : Def K mg x st ps) (S : FnScope N ps (defScope st)) (many : ∀ vs H Q E, sp vs H Q E → vs.length = ps.length)
    (hbody : ∀ (f : Addr) (cdv : Value) (A : Around) (out : List Env) (s : Shared) (H : Hp) (vs : List V) (Q : VK) (E : XK),
      Room k (A.deeper (envOfC x (defScope st) s.heap.objs.size f cdv)) → sp vs H Q E →
      ∃ t, PSs (cxOf CX0 P w K mg base N x (defScope st) f cdv A out s H E).nox (defBody st) t ∧
        t { nx := fun _ H' => Q .non H', rt := Q } (start N vs) H) : Cal P w K mg base x (k + 1) ps sp := by
  obtain ⟨f, fd, F, m, b⟩ := D
  exact ⟨f, fd, F.ok S many (fun cdv A out s H vs Q E hr hs => hbody f cdv A out s H vs Q E hr hs), m, F.kp, b, fdAt F⟩
theorem Def.okG (D : Def K mg x st ps) (S : FnScope N ps (defScope st)) (many : ∀ vs H Q E, sp vs H Q E → vs.length = ps.length)
    (hbody : ∀ (f : Addr) (cdv : Value) (A : Around) (out : List Env) (s : Shared) (H : Hp) (vs : List V) (Q : VK) (E : XK),
      Qt (A.deeper (envOfC x (defScope st) s.heap.objs.size f cdv)) →
      Room k (A.deeper (envOfC x (defScope st) s.heap.objs.size f cdv)) → sp vs H Q E →
      ∃ t, PSs (cxOf CX0 P w K mg base N x (defScope st) f cdv A out s H E).nox (defBody st) t ∧
        t { nx := fun _ H' => Q .non H', rt := Q } (start N vs) H) : CalG P w K mg base x (k + 1) ps sp := by
  obtain ⟨f, fd, F, m, b⟩ := D
  exact ⟨f, fd, Fun.okG F S many (fun cdv A out s H vs Q E hq hr hs => hbody f cdv A out s H vs Q E hq hr hs), m, F.kp, b, fdAt F⟩
theorem Cal.imp {sp' : Sp} (C : Cal P w K mg base x k ps sp) (h : ∀ vs H Q E, sp' vs H Q E → sp vs H Q E) : Cal P w K mg base x k ps sp' := by
  obtain ⟨f, fd, F, r⟩ := C
  exact ⟨f, fd, F.imp h, r⟩
theorem Cal.up {j : Nat} (C : Cal P w K mg base x j ps sp) (h : j ≤ k) : Cal P w K mg base x k ps sp := by
  obtain ⟨f, fd, F, r⟩ := C
  exact ⟨f, fd, F.mono h, r⟩
theorem def_mk {h : Heap} {f : Addr} {oc kV dc pm cd ct : Value} {od an : Option Addr} {sl : Array (Option Value)} (X : K.In h) (G : h.Ns mainGlobals mg)
    (a : PySem.W.nsIn K mainGlobals x = some (some (.ref f)))
    (l : K.lookup f = some ⟨oc, od, .func (PySem.W.fnOf x x (defArgs st) (defBody st) (defScope st) .none kV dc pm an cd ct), sl⟩)
    (c : PySem.W.codeIn K cd x = true) (kp : PySem.W.keepIn K (.ref f) = true)
    (hb : ∀ (kV doc pm : Value) (an : Option Addr) (cdv ct : Value) (us : List Value), us.length = ps.length →
      bindArgs (PySem.W.fnOf x x (defArgs st) (defBody st) (defScope st) .none kV doc pm an cdv ct) ⟨us, []⟩ = pure (ps.zip us)) : Def K mg x st ps := by
  have F := fun_mk (st := st) l c kp
  exact ⟨f, _, F, PySem.W.mg_of X G a, F.binds hb⟩
end
section
variable {X : Cx} {k j : Nat} {ps : List Str} {sp : Sp} {x : Str} {p pos : Pos} {e : Expr} {es : List Expr} {t : TA}
/-- f(e, ..) -/
theorem pe_cal (C : Cal X.prog X.w X.K X.mg X.base x j ps sp) (hr : Room k X.A) (hj : j ≤ k) (hg : Gl X x) (ha : PA X (e :: es) t) (hdb : (x == ("__debug__" : Str)) = false := by decide)
    (he : starEach (e :: es) X.env = (false, eval e X.env) :: starEach es X.env := by rfl) (hpl : (backTo pos (starEach es X.env)).any (·.1) = false := by rfl) :
    PE X (.Call (.Name x p) (e :: es) [] pos) (tCall sp [] E0 t) := by
  obtain ⟨f, fd, F, m, kp, b, _⟩ := C
  exact pe_call F (hr.mono hj) hg m kp b .nil pass0 ha hdb he hpl
theorem pe_calG (C : CalG X.prog X.w X.K X.mg X.base x j ps sp) (hq : Qt X.A) (hr : Room k X.A) (hj : j ≤ k) (hg : Gl X x) (ha : PA X (e :: es) t) (hdb : (x == ("__debug__" : Str)) = false := by decide)
    (he : starEach (e :: es) X.env = (false, eval e X.env) :: starEach es X.env := by rfl) (hpl : (backTo pos (starEach es X.env)).any (·.1) = false := by rfl) :
    PE X (.Call (.Name x p) (e :: es) [] pos) (tCall sp [] E0 t) := by
  obtain ⟨f, fd, F, m, kp, b, _⟩ := C
  exact pe_callG F hq (hr.mono hj) hg m kp b ha hdb he hpl

/-- f(k = e, ..), nothing by position: ks the names as they are written, g puts the values in the parameters' order -/
theorem pe_calK {st : Stmt} {ks : List Str} {kws : List Keyword} (g : List Value → List Value) (gV : List V → List V) (C : Cal X.prog X.w X.K X.mg X.base x j ps sp) (D : Def X.K X.mg x st ps) (hr : Room k X.A) (hj : j ≤ k) (hg : Gl X x)
    (hb : ∀ (kV doc pm : Value) (an : Option Addr) (cdv ct : Value) (us : List Value), us.length = ks.length →
      bindArgs (PySem.W.fnOf x x (defArgs st) (defBody st) (defScope st) .none kV doc pm an cdv ct) ⟨[], ks.zip us⟩ = pure (ps.zip (g us)))
    (hrel : ∀ {zs : List V} {us : List Value}, Vals zs us → us.length = ks.length → Vals (gV zs) (g us)) (ha : PK X kws t)
    (hn : ∀ zs H Q, t zs H Q → t zs H fun vs H' => vs.length = ks.length ∧ Q vs H')
    (hall : (backToKw pos (keywordEach kws X.env)).all (·.1.isSome) = true := by rfl) (hks : (backToKw pos (keywordEach kws X.env)).filterMap (·.1) = ks := by rfl)
    (hdb : (x == ("__debug__" : Str)) = false := by decide)
    (hpl : ((backTo pos (starEach [] X.env)).any (·.1) || (backToKw pos (keywordEach kws X.env)).any (·.1.isNone)) = false := by rfl) :
    PE X (.Call (.Name x p) [] kws pos) (fun σ H Q => t σ H fun zs H1 => sp (gV zs) H1 Q E0) := by
  obtain ⟨f, fd, F, m, kp, b, oc, od, osl, lk⟩ := C
  obtain ⟨f', fd', F', m', _⟩ := D
  have e1 : f' = f := by rw [m] at m'; injection m' with z; injection z with z; exact z.symm
  subst e1
  obtain ⟨oc', od', kV, doc, pm, an, cdv, ct, osl', e2, lk', _⟩ := F'.ex
  rw [lk] at lk'
  injection lk' with lk'
  injection lk' with _ _ e3 _
  injection e3 with e3
  subst e3
  refine ⟨fun pins s σ H Q I h => wpAny_Call_Name_kw (ld_glob I hg m ?_ hdb)⟩
  refine PySem.W.callWith_KW0 (h₀ := X.base) I.ok.mod.kin kp hall ?_ hpl
  refine thn (ha.run pos pins s σ H _ I (hn σ H _ h)) ?_
  rintro ws s2 ⟨zs, H2, I2, rz, hl, q2⟩
  rw [hks]
  refine ⟨I2.kIn, wpAny_call ?_⟩
  have hw : ws.length = ks.length := by rw [← Vals.length rz]; exact hl
  have bt : BindsTo s2 fd ⟨[], ks.zip ws⟩ (ps.zip (g ws)) := by
    rw [e2]
    exact .of_eq (hb kV doc pm an cdv ct ws hw)
  refine codeAny_mono (F.run X.A X.stack s2 H2 ⟨[], ks.zip ws⟩ (g ws) (gV zs) Q E0 (hr.mono hj) I2.env0 bt (hrel rz hw) q2) fun r s' hh => ?_
  cases r with
  | error z => exact False.elim hh
  | ok fl =>
    cases fl with
    | ret u => exact I2.after hh
    | next => exact False.elim hh
    | brk => exact False.elim hh
    | cont => exact False.elim hh
end

section
variable {P : Program} {w : World} {K : PySem.W.Frag} {mg : Str → Option Value} {st : Stmt} {x y : Str} {k : Nat} {sp : Sp} {fa : Addr}
theorem end_law (D : Def K mg x st [y]) (hfa : mg x = some (.ref fa)) (F : ∀ base : Heap, CalG P w K mg base x k [y] sp)
    (hb : ∀ (kV doc pm : Value) (an : Option Addr) (cdv ct u : Value), bindArgs (PySem.W.fnOf x x (defArgs st) (defBody st) (defScope st) .none kV doc pm an cdv ct) ⟨[u], []⟩ = pure [(y, u)]) :
    ∃ fd : FuncData, (∀ (s : Shared) (u : Value), BindsTo s fd ⟨[u], []⟩ [(y, u)]) ∧ ∀ base : Heap, K.In base → base.Ns mainGlobals mg → FnG P w K mg base k fa fd [y] sp := by
  obtain ⟨f, fd, F', m, _⟩ := D
  have e1 : f = fa := by rw [hfa] at m; injection m with z; injection z with z; exact z.symm
  subst e1
  obtain ⟨oc, od, kV, doc, pm, an, cdv, ct, osl, e2, lk, _⟩ := F'.ex
  refine ⟨fd, fun s u => by rw [e2]; exact .of_eq (hb kV doc pm an cdv ct u), fun base _ _ => ?_⟩
  obtain ⟨f2, fd2, G, m2, _, _, oc2, od2, osl2, lk2⟩ := F base
  have e3 : f2 = f := by rw [hfa] at m2; injection m2 with z; injection z with z; exact z.symm
  subst e3
  rw [lk] at lk2
  injection lk2 with lk2
  injection lk2 with _ _ e4 _
  injection e4 with e4
  rw [e4]
  exact G
end

theorem with_def {R : Prop} {K : PySem.W.Frag} {mg : Str → Option Value} {x : Str} {st : Stmt} {ps : List Str} {h : Heap} {f : Addr} {oc kV dc pm cd ct : Value} {od an : Option Addr} {sl : Array (Option Value)} (X : K.In h) (G : h.Ns mainGlobals mg)
    (a : PySem.W.nsIn K mainGlobals x = some (some (.ref f)))
    (l : K.lookup f = some ⟨oc, od, .func (PySem.W.fnOf x x (defArgs st) (defBody st) (defScope st) .none kV dc pm an cd ct), sl⟩)
    (c : PySem.W.codeIn K cd x = true) (kp : PySem.W.keepIn K (.ref f) = true)
    (hb : ∀ (kV doc pm : Value) (an : Option Addr) (cdv ct : Value) (us : List Value), us.length = ps.length →
      bindArgs (PySem.W.fnOf x x (defArgs st) (defBody st) (defScope st) .none kV doc pm an cdv ct) ⟨us, []⟩ = pure (ps.zip us))
    (go : Def K mg x st ps → R) : R := go (def_mk X G a l c kp hb)
theorem with_no {R : Prop} {K : PySem.W.Frag} {mg : Str → Option Value} {x : Str} {h : Heap} (X : K.In h) (G : h.Ns mainGlobals mg) (z : PySem.W.nsIn K mainGlobals x = some none) (go : mg x = none → R) : R := go (PySem.W.mg_none_of X G z)
end Tw

set_option Elab.async false
set_option linter.all false
set_option maxRecDepth 100000
set_option maxHeartbeats 4000000
/-! comprehensions over data, small facts -/
namespace Tw
open PySem PySem.Spec PyProof.Rows L2
theorem same_upd {H H' : Hp} {D : Addr} {o : HO} (s : Same H H') (n : H D = none) : Same H (upd H' D o) := fun b u e => by
  rw [upd_ne (ne_of_none e n)]; exact s b u e
theorem kp_upd {a : Addr} {H H' : Hp} {D : Addr} {o : HO} (s : Kp a H H') (n : H D = none) : Kp a H (upd H' D o) := fun b u ne e => by
  rw [upd_ne (ne_of_none e n)]; exact s b u ne e
theorem lt_line {n : Nat} (h : n < 100000) : n < sizeLine := Nat.lt_of_lt_of_le h (by decide)
theorem take_map {α β : Type} (f : α → β) {ds : List α} {i : Nat} {d : α} (h : ds[i]? = some d) : (ds.take i).map f ++ [f d] = (ds.take (i + 1)).map f := by
  rw [List.take_add_one, h, List.map_append]; rfl
section
variable {K : PySem.W.Frag} {te : TE} {i j : Nat} {elt : TE} {vs : List Nat} {σ : L2.St} {H : Hp} {Q : VK} {a p : Addr} {xs : List V} {ds : List PyData}
/-- [f(d) for d in t], t a tuple of data -/
theorem lc_mapT (f : PyData → V) (hv : σ[i]? = some (some (.ref p))) (ht : H p = some (.tup xs)) (hd : DaAll a H xs ds) (hn : xs.length < 100000)
    (hw : ∀ x, wipe ((wipe σ vs).set j (some x)) vs = wipe σ vs)
    (he : ∀ x d H1, d ∈ ds → Same H H1 → Da a H1 x d → ∀ R : VK, (∀ H2, Same H1 H2 → R (f d) H2) → elt ((wipe σ vs).set j (some x)) H1 R)
    (q : ∀ D H', Same H H' → H D = none → H' D = some (.lst (ds.map f)) → Q (.ref D) H') : tLc (iTup K (tVar i)) (gName j) tYes elt vs σ H Q := by
  refine ⟨.ref p, hv, p, rfl, ⟨xs, SqT.of ht⟩, fun D hD => ?_⟩
  refine lc_tup (xs := xs) (fun m H' => Same H H' ∧ H' D = some (.lst ((ds.take m).map f))) ⟨same_new hD, upd_same⟩ (fun m H' _ h => SqT.of (h.1 _ _ ht)) (fun m x H1 hx h => ?_) (fun H' h => ?_)
  · obtain ⟨h1, h2⟩ := h
    obtain ⟨d, e1, e2⟩ := hd.get hx
    have hm : m < xs.length := (List.getElem?_eq_some_iff.mp hx).1
    refine ⟨hw x, ?_⟩
    unfold tYes
    simp only [if_true]
    refine he x d H1 (List.mem_of_getElem? e1) h1 (e2.same h1) _ fun H2 s2 => ⟨(ds.take m).map f, s2 _ _ h2, ?_, same_upd (h1.trans s2) hD, ?_⟩
    · rw [List.length_map, List.length_take]; exact lt_line (by omega)
    · rw [upd_same, take_map f e1]
  · obtain ⟨h1, h2⟩ := h
    rw [hd.len, List.take_length] at h2
    exact q D H' h1 hD h2
theorem lc_mapL (f : PyData → V) (hv : σ[i]? = some (some (.ref p))) (ht : H p = some (.lst xs)) (hd : DaAll a H xs ds) (hn : xs.length < 100000)
    (hw : ∀ x, wipe ((wipe σ vs).set j (some x)) vs = wipe σ vs)
    (he : ∀ x d H1, d ∈ ds → Same H H1 → Da a H1 x d → ∀ R : VK, (∀ H2, Same H1 H2 → R (f d) H2) → elt ((wipe σ vs).set j (some x)) H1 R)
    (q : ∀ D H', Same H H' → H D = none → H' D = some (.lst (ds.map f)) → Q (.ref D) H') : tLc (iList K (tVar i)) (gName j) tYes elt vs σ H Q := by
  refine ⟨.ref p, hv, p, rfl, ⟨xs, SqL.of ht⟩, fun D hD => ?_⟩
  refine lc_list (xs := xs) (fun m H' => Same H H' ∧ H' D = some (.lst ((ds.take m).map f))) ⟨same_new hD, upd_same⟩ (fun m H' _ h => SqL.of (h.1 _ _ ht)) (fun m x H1 hx h => ?_) (fun H' h => ?_)
  · obtain ⟨h1, h2⟩ := h
    obtain ⟨d, e1, e2⟩ := hd.get hx
    have hm : m < xs.length := (List.getElem?_eq_some_iff.mp hx).1
    refine ⟨hw x, ?_⟩
    unfold tYes
    simp only [if_true]
    refine he x d H1 (List.mem_of_getElem? e1) h1 (e2.same h1) _ fun H2 s2 => ⟨(ds.take m).map f, s2 _ _ h2, ?_, same_upd (h1.trans s2) hD, ?_⟩
    · rw [List.length_map, List.length_take]; exact lt_line (by omega)
    · rw [upd_same, take_map f e1]
  · obtain ⟨h1, h2⟩ := h
    rw [hd.len, List.take_length] at h2
    exact q D H' h1 hD h2
end

/-! ### kinds, tests of kinds -/
def isIntD : PyData → Bool
  | .int _ => true
  | .bool _ => true
  | _ => false
def isBoolD : PyData → Bool
  | .bool _ => true
  | _ => false
def isTupD : PyData → Bool
  | .tuple _ => true
  | _ => false
theorem isi_int {K : PySem.W.Frag} (d : PyData) : PySem.W.kitOne K (.type (kindOf d)) (.type "int") = some (isIntD d) := by
  cases d with
  | none => exact kit_ty (show kitB "NoneType" "int" = some false by decide +kernel)
  | bool _ => exact kit_ty (show kitB "bool" "int" = some true by decide +kernel)
  | int _ => exact kit_ty (show kitB "int" "int" = some true by decide +kernel)
  | str _ => exact kit_ty (show kitB "str" "int" = some false by decide +kernel)
  | list _ => exact kit_ty (show kitB "list" "int" = some false by decide +kernel)
  | tuple _ => exact kit_ty (show kitB "tuple" "int" = some false by decide +kernel)
  | dict _ => exact kit_ty (show kitB "dict" "int" = some false by decide +kernel)
theorem isi_bool {K : PySem.W.Frag} (d : PyData) : PySem.W.kitOne K (.type (kindOf d)) (.type "bool") = some (isBoolD d) := by
  cases d with
  | none => exact kit_ty (show kitB "NoneType" "bool" = some false by decide +kernel)
  | bool _ => exact kit_ty (show kitB "bool" "bool" = some true by decide +kernel)
  | int _ => exact kit_ty (show kitB "int" "bool" = some false by decide +kernel)
  | str _ => exact kit_ty (show kitB "str" "bool" = some false by decide +kernel)
  | list _ => exact kit_ty (show kitB "list" "bool" = some false by decide +kernel)
  | tuple _ => exact kit_ty (show kitB "tuple" "bool" = some false by decide +kernel)
  | dict _ => exact kit_ty (show kitB "dict" "bool" = some false by decide +kernel)
theorem isi_tup {K : PySem.W.Frag} (d : PyData) : PySem.W.kitOne K (.type (kindOf d)) (.type "tuple") = some (isTupD d) := by
  cases d with
  | none => exact kit_ty (show kitB "NoneType" "tuple" = some false by decide +kernel)
  | bool _ => exact kit_ty (show kitB "bool" "tuple" = some false by decide +kernel)
  | int _ => exact kit_ty (show kitB "int" "tuple" = some false by decide +kernel)
  | str _ => exact kit_ty (show kitB "str" "tuple" = some false by decide +kernel)
  | list _ => exact kit_ty (show kitB "list" "tuple" = some false by decide +kernel)
  | tuple _ => exact kit_ty (show kitB "tuple" "tuple" = some true by decide +kernel)
  | dict _ => exact kit_ty (show kitB "dict" "tuple" = some false by decide +kernel)
/-- isinstance(x, T) of a datum -/
theorem isi {K : PySem.W.Frag} {a : Addr} {H : Hp} {Q : VK} {v : V} {d : PyData} {T : String} {b : Bool} (h : Da a H v d) (k : PySem.W.kitOne K (.type (kindOf d)) (.type T) = some b) (q : Q (.bl b) H) :
    rIsi K [v, .ty T] H Q := ⟨v, .ty T, .type (kindOf d), .type T, b, rfl, .ty T, h.ty, k, q⟩

/-! ### how deep, how wide -/
mutual
def dep : PyData → Nat
  | .list ds => dep1 ds + 1
  | .tuple ds => dep1 ds + 1
  | _ => 0
def dep1 : List PyData → Nat
  | [] => 0
  | d :: ds => max (dep d) (dep1 ds)
end
mutual
def wid : PyData → Nat
  | .list ds => max ds.length (wid1 ds)
  | .tuple ds => max ds.length (wid1 ds)
  | _ => 0
def wid1 : List PyData → Nat
  | [] => 0
  | d :: ds => max (wid d) (wid1 ds)
end
theorem dep1_mem {d : PyData} : ∀ {ds : List PyData}, d ∈ ds → dep d ≤ dep1 ds
  | e :: ds, h => by
    rw [dep1]
    rcases List.mem_cons.mp h with rfl | h
    · exact Nat.le_max_left _ _
    · exact Nat.le_trans (dep1_mem h) (Nat.le_max_right _ _)
theorem wid1_mem {d : PyData} : ∀ {ds : List PyData}, d ∈ ds → wid d ≤ wid1 ds
  | e :: ds, h => by
    rw [wid1]
    rcases List.mem_cons.mp h with rfl | h
    · exact Nat.le_max_left _ _
    · exact Nat.le_trans (wid1_mem h) (Nat.le_max_right _ _)
theorem dep1_le {n : Nat} : ∀ {ds : List PyData}, (∀ d ∈ ds, dep d ≤ n) → dep1 ds ≤ n
  | [], _ => Nat.zero_le _
  | d :: ds, h => by
    rw [dep1]
    exact Nat.max_le.mpr ⟨h d (by simp), dep1_le fun e he => h e (by simp [he])⟩
theorem wid1_le {n : Nat} : ∀ {ds : List PyData}, (∀ d ∈ ds, wid d ≤ n) → wid1 ds ≤ n
  | [], _ => Nat.zero_le _
  | d :: ds, h => by
    rw [wid1]
    exact Nat.max_le.mpr ⟨h d (by simp), wid1_le fun e he => h e (by simp [he])⟩
/-- at most n deep, m wide -/
def Sm (n m : Nat) (d : PyData) : Prop := dep d ≤ n ∧ wid d ≤ m
theorem Sm.up {n m n' m' : Nat} {d : PyData} (h : Sm n m d) (h1 : n ≤ n') (h2 : m ≤ m') : Sm n' m' d := ⟨Nat.le_trans h.1 h1, Nat.le_trans h.2 h2⟩
theorem sm_tup {n m : Nat} {ds : List PyData} (hl : ds.length ≤ m) (h : ∀ d ∈ ds, Sm n m d) : Sm (n + 1) m (.tuple ds) :=
  ⟨by rw [dep]; exact Nat.succ_le_succ (dep1_le fun d hd => (h d hd).1), by rw [wid]; exact Nat.max_le.mpr ⟨hl, wid1_le fun d hd => (h d hd).2⟩⟩
theorem sm_lst {n m : Nat} {ds : List PyData} (hl : ds.length ≤ m) (h : ∀ d ∈ ds, Sm n m d) : Sm (n + 1) m (.list ds) :=
  ⟨by rw [dep]; exact Nat.succ_le_succ (dep1_le fun d hd => (h d hd).1), by rw [wid]; exact Nat.max_le.mpr ⟨hl, wid1_le fun d hd => (h d hd).2⟩⟩
theorem Sm.len {n m : Nat} {ds : List PyData} (h : Sm n m (.tuple ds)) : ds.length ≤ m := by
  have := h.2
  rw [wid] at this
  exact Nat.le_trans (Nat.le_max_left _ _) this
theorem Sm.dep1 {n m : Nat} {ds : List PyData} (h : Sm n m (.tuple ds)) : 1 ≤ n := by
  have := h.1
  rw [dep] at this
  omega
theorem Sm.mem {n m : Nat} {ds : List PyData} {d : PyData} (h : Sm n m (.tuple ds)) (hd : d ∈ ds) : Sm (n - 1) m d := by
  obtain ⟨h1, h2⟩ := h
  rw [dep] at h1
  rw [wid] at h2
  have := dep1_mem hd
  exact ⟨by omega, Nat.le_trans (wid1_mem hd) (Nat.le_trans (Nat.le_max_right _ _) h2)⟩
def smB (n m : Nat) (d : PyData) : Bool := decide (dep d ≤ n) && decide (wid d ≤ m)
theorem sm_of {n m : Nat} {d : PyData} (h : smB n m d = true) : Sm n m d := by
  unfold smB at h
  simpa [Sm] using h

/-- a loop over a range, its body already read -/
theorem for_rng {lo : Int} {n : Nat} {B : (L2.St → Hp → Prop) → V → L2.St → Hp → Prop} {nx : L2.St → Hp → Prop} {σ : L2.St} {H : Hp} (Pv : Nat → L2.St → Hp → Prop) (h0 : Pv 0 σ H)
    (hs : ∀ (i : Nat) σ' H', i < n → Pv i σ' H' → B (Pv (i + 1)) (.int (lo + i)) σ' H') (hd : ∀ σ' H', Pv n σ' H' → nx σ' H') :
    ∃ W : Nat → Nat → L2.St → Hp → Prop, (∃ m, W 0 m σ H) ∧ ∀ i m σ H, W i m σ H →
      ((Itr lo n).stop i H ∧ nx σ H) ∨ ((Itr lo n).go i H ∧ ∃ N : L2.St → Hp → Prop, (∀ σ' H', N σ' H' → ∃ m', m' < m ∧ W (i + 1) m' σ' H') ∧ ∀ x H', (Itr lo n).yld i H x H' → B N x σ H') := by
  refine ⟨fun i m σ H => m = n - i ∧ i ≤ n ∧ Pv i σ H, ⟨n, by simp, Nat.zero_le _, h0⟩, ?_⟩
  rintro i m σ' H' ⟨rfl, hi, p⟩
  by_cases c : i < n
  · refine Or.inr ⟨c, Pv (i + 1), fun σ2 H2 p2 => ⟨n - (i + 1), by omega, rfl, c, p2⟩, fun x H2 y => ?_⟩
    obtain ⟨e1, e2⟩ := y
    subst e1 e2
    exact hs i σ' _ c p
  · have e : i = n := by omega
    subst e
    exact Or.inl ⟨by show i ≤ i; omega, hd σ' H' p⟩

/-- a loop over a list, its body already read -/
theorem for_lst {K : PySem.W.Frag} {a : Addr} {xs : List V} {B : (L2.St → Hp → Prop) → V → L2.St → Hp → Prop} {nx : L2.St → Hp → Prop} {σ : L2.St} {H : Hp} (Pv : Nat → L2.St → Hp → Prop) (h0 : Pv 0 σ H)
    (hl : ∀ i σ' H', i ≤ xs.length → Pv i σ' H' → SqL K H' a xs)
    (hs : ∀ (i : Nat) x σ' H', xs[i]? = some x → Pv i σ' H' → B (Pv (i + 1)) x σ' H') (hd : ∀ σ' H', Pv xs.length σ' H' → nx σ' H') :
    ∃ W : Nat → Nat → L2.St → Hp → Prop, (∃ m, W 0 m σ H) ∧ ∀ i m σ H, W i m σ H →
      ((Itl K a).stop i H ∧ nx σ H) ∨ ((Itl K a).go i H ∧ ∃ N : L2.St → Hp → Prop, (∀ σ' H', N σ' H' → ∃ m', m' < m ∧ W (i + 1) m' σ' H') ∧ ∀ x H', (Itl K a).yld i H x H' → B N x σ H') := by
  refine ⟨fun i m σ H => m = xs.length - i ∧ i ≤ xs.length ∧ Pv i σ H, ⟨xs.length, by simp, Nat.zero_le _, h0⟩, ?_⟩
  rintro i m σ' H' ⟨rfl, hi, p⟩
  have ql := hl i σ' H' hi p
  by_cases c : i < xs.length
  · refine Or.inr ⟨⟨xs, xs[i], ql, by simp [c]⟩, Pv (i + 1), fun σ2 H2 p2 => ⟨xs.length - (i + 1), by omega, rfl, c, p2⟩, fun x H2 y => ?_⟩
    obtain ⟨e1, e2⟩ := y
    subst e1
    exact hs i x σ' _ (e2 xs ql) p
  · have e : i = xs.length := by omega
    subst e
    exact Or.inl ⟨⟨xs, ql, Nat.le_refl _⟩, hd σ' H' p⟩

theorem same_kp {a : Addr} {H H1 H2 : Hp} (s : Same H H1) (n : H a = none) (k : Kp a H1 H2) : Same H H2 := fun b o e => k b o (ne_of_none e n) (s b o e)
/-- [f(i) for i in range(n)] -/
theorem lc_rng {wi : TI} {j : Nat} {elt : TE} {vs : List Nat} {σ : L2.St} {H : Hp} {Q : VK} {n : Nat} (f : Nat → V) (hi : ∀ R : It → Hp → Prop, R (Itr 0 n) H → wi σ H R) (hn : n < 100000)
    (hw : ∀ x, wipe ((wipe σ vs).set j (some x)) vs = wipe σ vs)
    (he : ∀ (i : Nat) H1, i < n → Same H H1 → ∀ R : VK, (∀ H2, Same H1 H2 → R (f i) H2) → elt ((wipe σ vs).set j (some (.int (0 + (i : Int))))) H1 R)
    (q : ∀ D H', Same H H' → H D = none → H' D = some (.lst ((List.range n).map f)) → Q (.ref D) H') : tLc wi (gName j) tYes elt vs σ H Q := by
  refine hi _ fun D hD => ?_
  refine lc_range (lo := 0) (n := n) (fun m H' => Same H H' ∧ H' D = some (.lst ((List.range m).map f))) ⟨same_new hD, upd_same⟩ (fun m H1 hm h => ?_) (fun H' h => q D H' h.1 hD h.2)
  obtain ⟨h1, h2⟩ := h
  refine ⟨hw _, ?_⟩
  unfold tYes
  simp only [if_true]
  refine he m H1 hm h1 _ fun H2 s2 => ⟨(List.range m).map f, s2 _ _ h2, ?_, same_upd (h1.trans s2) hD, ?_⟩
  · rw [List.length_map, List.length_range]; exact lt_line (by omega)
  · rw [upd_same, List.range_succ, List.map_append]; rfl
end Tw

set_option Elab.async false
set_option linter.all false
set_option maxRecDepth 100000
set_option maxHeartbeats 4000000
/-! numbers that may be True or False -/
namespace Tw
open PySem PySem.Spec PyProof.Rows L2
/-- a number, True and False among them -/
inductive Nu : V → Int → Prop
  | int (i : Int) : Nu (.int i) i
  | bl (b : Bool) : Nu (.bl b) (if b = true then 1 else 0)
theorem nu_of {a : Addr} {H : Hp} {v : V} {d : PyData} (h : Da a H v d) (t : isIntD d = true) : ∃ i, Nu v i := by
  cases h with
  | int i => exact ⟨i, .int i⟩
  | bl b => exact ⟨_, .bl b⟩
  | _ => cases t
def rNl (f : Int → Int → Int) : R2 := fun x y H Q => ∃ i j, Nu x i ∧ y = .int j ∧ Q (.int (f i j)) H
def rNr (f : Int → Int → Int) : R2 := fun x y H Q => ∃ i j, x = .int i ∧ Nu y j ∧ Q (.int (f i j)) H
section
variable {X : Cx}
theorem op_addNl : OpR X (binaryOp .Add) (rNl fun i j => i + j) := by
  intro pins s σ H x y v u Q I rx ry h
  obtain ⟨i, j, nx, rfl, q⟩ := h
  obtain ⟨t, rfl⟩ := ry
  cases nx with
  | int _ => obtain ⟨t', rfl⟩ := rx; exact add_int ⟨.int _, H, I.tok _, ⟨_, rfl⟩, q⟩
  | bl b => cases rx; exact IntBool.add_bool_int ⟨.int _, H, I.tok _, ⟨_, rfl⟩, q⟩
theorem op_subNl : OpR X (binaryOp .Sub) (rNl fun i j => i - j) := by
  intro pins s σ H x y v u Q I rx ry h
  obtain ⟨i, j, nx, rfl, q⟩ := h
  obtain ⟨t, rfl⟩ := ry
  cases nx with
  | int _ => obtain ⟨t', rfl⟩ := rx; exact sub_int ⟨.int _, H, I.tok _, ⟨_, rfl⟩, q⟩
  | bl b => cases rx; exact IntBool.sub_bool_int ⟨.int _, H, I.tok _, ⟨_, rfl⟩, q⟩
theorem op_subNr : OpR X (binaryOp .Sub) (rNr fun i j => i - j) := by
  intro pins s σ H x y v u Q I rx ry h
  obtain ⟨i, j, rfl, ny, q⟩ := h
  obtain ⟨t, rfl⟩ := rx
  cases ny with
  | int _ => obtain ⟨t', rfl⟩ := ry; exact sub_int ⟨.int _, H, I.tok _, ⟨_, rfl⟩, q⟩
  | bl b => cases ry; exact IntBool.sub_int_bool ⟨.int _, H, I.tok _, ⟨_, rfl⟩, q⟩
/-- a small number times such a one -/
theorem op_mulNr : OpR X (binaryOp .Mult) (fun x y H Q => ∃ i j, x = .int i ∧ (-(2 ^ 64) < i ∧ i < 2 ^ 64) ∧ Nu y j ∧ Q (.int (i * j)) H) := by
  intro pins s σ H x y v u Q I rx ry h
  obtain ⟨i, j, rfl, ⟨b1, b2⟩, ny, q⟩ := h
  obtain ⟨t, rfl⟩ := rx
  cases ny with
  | int _ => obtain ⟨t', rfl⟩ := ry; exact mul_int ⟨.int _, H, I.tok _, ⟨_, rfl⟩, q⟩ (.of_left (intBits_le_64 b1 b2))
  | bl b => cases ry; exact IntBool.mul_int_bool ⟨.int _, H, I.tok _, ⟨_, rfl⟩, q⟩
/-- == of such a number and an int -/
theorem op_eqNl : OpR X (compareOp .Eq) (fun x y H Q => ∃ i j, Nu x i ∧ y = .int j ∧ Q (.bl (i == j)) H) := by
  intro pins s σ H x y v u Q I rx ry h
  obtain ⟨i, j, nx, rfl, q⟩ := h
  obtain ⟨t, rfl⟩ := ry
  cases nx with
  | int _ => obtain ⟨t', rfl⟩ := rx; exact eq_int ⟨.bl _, H, I, rfl, q⟩
  | bl b => cases rx; exact EqBoolInt.eq_bool_int ⟨.bl _, H, I, rfl, q⟩
end
end Tw

set_option Elab.async false
set_option linter.all false
set_option maxRecDepth 100000
set_option maxHeartbeats 4000000
/-! slices, sums, turned tuples of data -/
namespace Tw
open PySem PySem.Spec PyProof.Rows L2
section
variable {K : PySem.W.Frag} {a : Addr} {H : Hp} {v u : V} {ds es : List PyData} {Q : VK}
theorem da_tup (h : Da a H v (.tuple ds)) : ∃ p xs, v = .ref p ∧ p ≠ a ∧ H p = some (.tup xs) ∧ DaAll a H xs ds := by
  cases h with
  | tup n e r => exact ⟨_, _, rfl, n, e, r⟩
theorem cut_whole {ds : List PyData} {lo hi : Option Int} (h : HT.sIx ds.length 0 lo = 0 ∧ HT.sIx ds.length ds.length hi = ds.length) : cutD ds lo hi = ds := by
  unfold cutD
  rw [h.1, h.2, List.drop_zero, Nat.sub_zero, List.take_length]
theorem sl_da {lo hi : Option Int} (w : H a ≠ none) (h : Da a H v (.tuple ds)) (q : ∀ v' H', Same H H' → Da a H' v' (.tuple (cutD ds lo hi)) → Q v' H') : rSlA K v lo hi H Q := by
  obtain ⟨p, xs, rfl, np, hp, hx⟩ := da_tup h
  refine ⟨p, xs, rfl, SqT.of hp, fun c => ?_, fun c t nt => ?_⟩
  · rw [hx.len] at c
    exact q _ _ (Same.refl H) (by rw [cut_whole c]; exact h)
  · have s := same_new (o := .tup (cutV xs lo hi)) nt
    exact q _ _ s (.tup (new_ne w nt) upd_same ((hx.cut lo hi).same s))
theorem cat_da (w : H a ≠ none) (h : Da a H v (.tuple ds)) (g : Da a H u (.tuple es)) (hz : ds.length + es.length ≤ 100000) (q : ∀ v' H', Same H H' → Da a H' v' (.tuple (ds ++ es)) → Q v' H') : rCatA K v u H Q := by
  obtain ⟨p, xs, rfl, np, hp, hx⟩ := da_tup h
  obtain ⟨r, ys, rfl, nr, hr, hy⟩ := da_tup g
  refine ⟨p, r, xs, ys, rfl, rfl, SqT.of hp, SqT.of hr, sz (by rw [hx.len, hy.len]; exact hz), fun c => ?_, fun c c2 => ?_, fun c c2 t nt => ?_⟩
  · subst c
    cases hx
    exact q _ _ (Same.refl H) g
  · subst c2
    cases hy
    exact q _ _ (Same.refl H) (by rw [List.append_nil]; exact h)
  · have s := same_new (o := .tup (xs ++ ys)) nt
    exact q _ _ s (.tup (new_ne w nt) upd_same ((hx.append hy).same s))
theorem rev_da (w : H a ≠ none) (h : Da a H v (.tuple ds)) (q : ∀ v' H', Same H H' → Da a H' v' (.tuple ds.reverse) → Q v' H') :
    ∃ p xs, v = .ref p ∧ SqT K H p xs ∧ ∀ t, H t = none → Q (.ref t) (upd H t (.tup xs.reverse)) := by
  obtain ⟨p, xs, rfl, np, hp, hx⟩ := da_tup h
  refine ⟨p, xs, rfl, SqT.of hp, fun t nt => ?_⟩
  have s := same_new (o := .tup xs.reverse) nt
  exact q _ _ s (.tup (new_ne w nt) upd_same (hx.rev.same s))
theorem list_da (w : H a ≠ none) (h : Da a H v (.tuple ds)) (q : ∀ v' H', Same H H' → Da a H' v' (.list ds) → Q v' H') :
    ∃ p ys, [v] = [.ref p] ∧ (SqL K H p ys ∨ SqT K H p ys) ∧ ∀ l, H l = none → Q (.ref l) (upd H l (.lst ys)) := by
  obtain ⟨p, xs, rfl, np, hp, hx⟩ := da_tup h
  refine ⟨p, xs, rfl, .inr (SqT.of hp), fun t nt => ?_⟩
  have s := same_new (o := .lst xs) nt
  exact q _ _ s (.lst (new_ne w nt) upd_same (hx.same s))
/-- a written tuple of values that are data -/
theorem tup_da {vs : List V} (w : H a ≠ none) (h : DaAll a H vs ds) (hz : ds.length ≤ 100000) (q : ∀ v' H', Same H H' → Da a H' v' (.tuple ds) → Q v' H') :
    vs.length ≤ sizeLine ∧ ∀ p, H p = none → Q (.ref p) (upd H p (.tup vs)) := by
  refine ⟨sz (by rw [h.len]; exact hz), fun t nt => ?_⟩
  have s := same_new (o := .tup vs) nt
  exact q _ _ s (.tup (new_ne w nt) upd_same (h.same s))
theorem newT {vs : List V} {p : Addr} (w : H a ≠ none) (h : DaAll a H vs ds) (n : H p = none) : Same H (upd H p (.tup vs)) ∧ Da a (upd H p (.tup vs)) (.ref p) (.tuple ds) :=
  ⟨same_new n, .tup (new_ne w n) upd_same (h.same (same_new n))⟩
theorem newL {vs : List V} {p : Addr} (w : H a ≠ none) (h : DaAll a H vs ds) (n : H p = none) : Same H (upd H p (.lst vs)) ∧ Da a (upd H p (.lst vs)) (.ref p) (.list ds) :=
  ⟨same_new n, .lst (new_ne w n) upd_same (h.same (same_new n))⟩
/-- an item of such a one -/
theorem ix_da {i : Int} (h : Da a H v (.tuple ds)) (i0 : 0 ≤ i) (i1 : i < ds.length) (q : ∀ x d, d ∈ ds → Da a H x d → Q x H) : rIxT K v (.int i) H Q := by
  obtain ⟨p, xs, rfl, np, hp, hx⟩ := da_tup h
  obtain ⟨m, rfl⟩ := Int.eq_ofNat_of_zero_le i0
  have hm : m < xs.length := by rw [hx.len]; omega
  obtain ⟨d, e1, e2⟩ := hx.get (List.getElem?_eq_getElem hm)
  exact ⟨p, xs, _, xs[m], rfl, rfl, SqT.of hp, atI_nat (List.getElem?_eq_getElem hm), q _ d (List.mem_of_getElem? e1) e2⟩
end
theorem cut_mem {ds : List PyData} {lo hi : Option Int} {d : PyData} (h : d ∈ cutD ds lo hi) : d ∈ ds := List.mem_of_mem_drop (List.mem_of_mem_take h)
theorem cut_le (ds : List PyData) (lo hi : Option Int) : (cutD ds lo hi).length ≤ ds.length := by
  unfold cutD
  rw [List.length_take, List.length_drop]
  omega
theorem cut_upto (ds : List PyData) (k : Nat) : (cutD ds none (some (k : Int))).length = min k ds.length := by
  unfold cutD
  rw [HT.sIx_nat, HT.sIx_none, List.drop_zero, Nat.sub_zero, List.length_take]
  omega
theorem cut_from (ds : List PyData) (k : Nat) : (cutD ds (some (k : Int)) none).length = ds.length - min k ds.length := by
  unfold cutD
  rw [HT.sIx_nat, HT.sIx_none, List.length_take, List.length_drop]
  omega
theorem sm_sub {n m n' m' : Nat} {ds es : List PyData} (h : Sm n m (.tuple ds)) (hl : es.length ≤ m') (h1 : n ≤ n') (h2 : m ≤ m') (he : ∀ e ∈ es, e ∈ ds ∨ Sm (n' - 1) m' e) : Sm n' m' (.tuple es) := by
  have n1 := h.dep1
  have := sm_tup (n := n' - 1) hl fun e q => by
    rcases he e q with c | c
    · exact (h.mem c).up (by omega) h2
    · exact c
  exact this.up (by omega) (Nat.le_refl _)
theorem sm_subL {n m n' m' : Nat} {ds es : List PyData} (h : Sm n m (.tuple ds)) (hl : es.length ≤ m') (h1 : n ≤ n') (h2 : m ≤ m') (he : ∀ e ∈ es, e ∈ ds ∨ Sm (n' - 1) m' e) : Sm n' m' (.list es) := by
  have n1 := h.dep1
  have := sm_lst (n := n' - 1) hl fun e q => by
    rcases he e q with c | c
    · exact (h.mem c).up (by omega) h2
    · exact c
  exact this.up (by omega) (Nat.le_refl _)
theorem sm_int (n m : Nat) (i : Int) : Sm n m (.int i) := ⟨Nat.zero_le _, Nat.zero_le _⟩
theorem sm_bl (n m : Nat) (b : Bool) : Sm n m (.bool b) := ⟨Nat.zero_le _, Nat.zero_le _⟩
end Tw

set_option Elab.async false
set_option linter.all false
set_option maxRecDepth 100000
set_option maxHeartbeats 4000000
/-! rules: max with default, few times a tuple, *= and >>=, statements that are not reached -/
namespace Tw
open PySem PySem.Spec PyProof.Rows L2
section
variable {X : Cx}
/-- a statement that is not reached -/
def tDead : TS := fun _ _ _ => False
theorem ps_dead {st : Stmt} : PS X st tDead := ⟨fun _ _ _ _ _ _ h => h.elim⟩
theorem pss_dead {st : List Stmt} : PSs X st tDead := ⟨fun _ _ _ _ _ _ h => h.elim⟩
/-- max(l, default=0) of ints that are not negative -/
def maxN (ns : List Int) : Int := ns.foldl max 0
def rMaxZ (K : PySem.W.Frag) : List V → List V → Hp → VK → Prop := fun vs zs H Q => ∃ (a : Addr) (ns : List Int), vs = [.ref a] ∧ zs = [.int 0] ∧ SqL K H a (ns.map V.int) ∧ (∀ n ∈ ns, 0 ≤ n) ∧ Q (.int (maxN ns)) H
theorem cr_maxZ (hc : X.calm = true) (hu : X.A.units + 64 < cLine) : CallRK X (.builtin "max") [Str.ofString "default"] (rMaxZ X.K) := by
  intro pins s σ H vs zs us ws Q I r rz h
  obtain ⟨a, ns, rfl, rfl, hs, hn, q⟩ := h
  obtain ⟨its, rv, hl, _⟩ := I.list hs
  rw [Vals.ref1 r]
  obtain ⟨w1, rfl, e1⟩ := vals1 rz
  obtain ⟨t, rfl⟩ : ∃ t, w1 = Value.int 0 t := e1
  have rd : ReadsAll s.heap its.toArray.toList (ns.map .int) [] := IntsAre.reads _ rv.ints
  have dz : ∀ l : List Int, PyData.depthAll (l.map .int) = 0 := fun l => by
    induction l with
    | nil => rfl
    | cons n l ih => simp only [List.map_cons, PyData.depthAll, PyData.depth, ih]; rfl
  refine PySem.W.max_list_default (xs := ns.map .int) (I.ok.hd hc) hl.isList rd ⟨fun x hx y hy => ?_, fun x hx => ?_⟩ (by rw [dz]; show X.A.units + 1 + 0 < cLine; omega) (fun e h' tk k => ?_) (fun y ys i v h' tk bs e hv rv' k => ?_)
  · obtain ⟨i, _, rfl⟩ := List.mem_map.mp hx
    obtain ⟨j, _, rfl⟩ := List.mem_map.mp hy
    simp only [PySem.W.alike]
  · obtain ⟨i, _, rfl⟩ := List.mem_map.mp hx
    exact fun e => by cases e
  · have : ns = [] := by simpa using e
    subst this
    exact ⟨.int _, H, I.kept k, ⟨_, rfl⟩, q⟩
  · cases ns with
    | nil => cases e
    | cons n l =>
      rw [List.map_cons] at e
      injection e with e1 e2
      subst e1 e2
      rw [PySem.W.maxD_ints] at rv'
      cases rv' with
      | int _ t' =>
        have n0 := hn n (by simp)
        refine ⟨.int _, H, I.kept k, ⟨_, rfl⟩, ?_⟩
        have : maxN (n :: l) = l.foldl max n := by
          unfold maxN
          rw [List.foldl_cons]
          congr 1
          omega
        rw [← this]
        exact q
/-- o *= e, one of them small -/
theorem ip_mul : PIp X .Mult (fun x y H Q => ∃ i j, x = .int i ∧ y = .int j ∧ CMul i j ∧ Q (.int (i * j)) H) := by
  intro pins s σ H x y v u Q I r1 r2 h
  obtain ⟨i, j, rfl, rfl, c, q⟩ := h
  obtain ⟨t, rfl⟩ := r1
  obtain ⟨t', rfl⟩ := r2
  exact PyProof.Rows.imul_int ⟨.int _, H, I.tok _, ⟨_, rfl⟩, q⟩ c.ok
/-- o >>= 1 -/
theorem ip_half : PIp X .RShift (fun x y H Q => ∃ n : Nat, x = .int (n : Int) ∧ y = .int 1 ∧ Q (.int ((n / 2 : Nat) : Int)) H) := by
  intro pins s σ H x y v u Q I r1 r2 h
  obtain ⟨n, rfl, rfl, q⟩ := h
  obtain ⟨t, rfl⟩ := r1
  obtain ⟨t', rfl⟩ := r2
  refine PyProof.Rows.irshift_int (by decide) ?_
  rw [show (2 : Int) ^ (1 : Int).toNat = 2 from rfl, Int.fdiv_eq_ediv_of_nonneg _ (by decide)]
  exact ⟨.int _, H, I.tok _, ⟨_, rfl⟩, q⟩

/-! k times a tuple, k from 0 on -/
theorem tuple_mul1 (l : Addr) (items : Array Value) (n : Nat) (dd : Option Addr) (sl : Array (Option Value)) (u : Tok) :
    Meets (Builtin.«tuple.__mul__» ⟨[.ref l, .int 1 u], []⟩) (fun _ R s => s.heap.get? l = some { cls := .type "tuple", dict := dd, data := .seq items n, slots := sl } ∧ R (.ok (.ret (Value.ref l))) s) :=
  .of_wp fun prog w A R s h => by
    obtain ⟨hp, g, d, tk, os⟩ := s
    obtain ⟨hl, h⟩ := h
    have f1 := AutoSeq1.idx_int
    wp_walk using wpAny_loadPart' hl
    repeat (first
      | (refine wpAny_ite_false (by decide) ?_; wp_walk using wpAny_loadPart' hl)
      | (refine wpAny_ite_true (by simp) ?_; wp_walk using wpAny_loadPart' hl))
    exact ⟨_, rfl, h⟩
theorem tuple_mul0 (l : Addr) (items : Array Value) (n : Nat) (dd : Option Addr) (sl : Array (Option Value)) (u : Tok) (c1 : (items.isEmpty || (0 : Int) == 1) = false) :
    Meets (Builtin.«tuple.__mul__» ⟨[.ref l, .int 0 u], []⟩) (fun _ R s => s.heap.get? l = some { cls := .type "tuple", dict := dd, data := .seq items n, slots := sl } ∧
      R (.ok (.ret (Value.ref s.heap.objs.size))) { s with heap := s.heap.push { cls := Value.type "tuple", data := Data.seq #[] }, toks := s.toks }) :=
  .of_wp fun prog w A R s h => by
    obtain ⟨hp, g, d, tk, os⟩ := s
    obtain ⟨hl, h⟩ := h
    have f1 := AutoSeq1.idx_int
    wp_walk using wpAny_loadPart' hl
    repeat (first
      | (refine wpAny_ite_false (decide_eq_false (by rw [c1]; exact Bool.false_ne_true)) ?_; wp_walk using wpAny_loadPart' hl)
      | (refine wpAny_ite_false (by decide) ?_; wp_walk using wpAny_loadPart' hl)
      | (refine wpAny_ite_true (by simp) ?_; wp_walk using wpAny_loadPart' hl))
    exact ⟨_, rfl, h⟩
def rMulT (K : PySem.W.Frag) : R2 := fun x y H Q => ∃ (l : Addr) (k : Nat) (xs : List V), x = .ref l ∧ y = .int (k : Int) ∧ SqT K H l xs ∧ xs ≠ [] ∧ k ≤ 1000 ∧ xs.length ≤ 1000 ∧
  ∀ t H', Same H H' → SqT K H' t (List.replicate k xs).flatten → Q (.ref t) H'
theorem op_mulT : OpR X (binaryOp .Mult) (rMulT X.K) := by
  intro pins s σ H x y v u Q I rx ry h
  obtain ⟨l, k, xs, rfl, rfl, hT, hne, h1, hz, q⟩ := h
  rcases Nat.lt_or_ge 1 k with h2 | h2
  · exact op_repT pins s σ H _ _ v u Q I rx ry ⟨l, _, xs, rfl, rfl, hT, hne, by omega, by omega, hz, fun p np => q p _ (same_new np) (SqT.of (by rw [Int.toNat_natCast]; exact upd_same))⟩
  have rx' := rx
  cases rx
  obtain ⟨t, rfl⟩ := ry
  obtain ⟨its, r, ⟨⟨cls, dd, data, sl⟩, ho, hc, n, hd⟩, hs⟩ := I.tuple hT
  simp only at hc hd
  subst hc hd
  have hle : its.length = xs.length := r.length.symm
  have hn : its ≠ [] := fun e => hne (by
    rw [e] at hle
    exact List.eq_nil_of_length_eq_zero hle.symm)
  have hi : its.toArray.isEmpty = false := by
    cases its with
    | nil => exact absurd rfl hn
    | cons a b => rfl
  have hk : k = 0 ∨ k = 1 := by omega
  rcases hk with rfl | rfl
  · refine wpAny_binaryOp_repeat_ref (T := "tuple") (U := "int") (by decide) ⟨_, ho, rfl⟩ (fun s' => typeIs_int s' _ t) noFill_tuple_mul F.fills_int_mul F.slot_int_rmul repeat_tuple F.slot_int_index.lookup
      (call_meets F.slot_int_rmul (typeIs_int s _ t) F.entry_int_rmul (F.args_int_rmul_2 _ _) (int_rmul_tuple _ t l its.toArray n dd sl)
        ⟨ho, rfl, ⟨_, ho, rfl⟩, call_meets F.slot_tuple_mul ⟨_, ho, rfl⟩ F.entry_tuple_mul (F.args_tuple_mul_2 _ _) (tuple_mul0 l its.toArray n dd sl t (by rw [hi]; rfl)) ⟨ho, ?_⟩⟩)
    refine ⟨.ref s.heap.objs.size, _, I.laid (t' := s.toks) (o := .tup []) (fun b ob q => Heap.get?_push_of_some _ q) (Nat.le_refl _) ?_, rfl, q _ _ (same_new (I.hok.fresh (Nat.le_refl _))) (SqT.of upd_same)⟩
    exact ⟨by simp, _, .nil, IsTup.new _ _⟩
  · refine wpAny_binaryOp_repeat_ref (T := "tuple") (U := "int") (by decide) ⟨_, ho, rfl⟩ (fun s' => typeIs_int s' _ t) noFill_tuple_mul F.fills_int_mul F.slot_int_rmul repeat_tuple F.slot_int_index.lookup
      (call_meets F.slot_int_rmul (typeIs_int s _ t) F.entry_int_rmul (F.args_int_rmul_2 _ _) (int_rmul_tuple _ t l its.toArray n dd sl)
        ⟨ho, rfl, ⟨_, ho, rfl⟩, call_meets F.slot_tuple_mul ⟨_, ho, rfl⟩ F.entry_tuple_mul (F.args_tuple_mul_2 _ _) (tuple_mul1 l its.toArray n dd sl t) ⟨ho, ?_⟩⟩)
    exact ⟨.ref l, H, I, rfl, q _ _ (Same.refl H) (by simpa using hT)⟩
end
end Tw

set_option Elab.async false
set_option linter.all false
set_option maxRecDepth 100000
set_option maxHeartbeats 4000000
/-! for i, x in enumerate(t), t a tuple -/
namespace Tw
open PySem PySem.Spec PyProof.Rows L2
/-- the tuple's iterator, the enumerate over it, as they are made -/
def itO (p : Addr) : Obj :=
  { cls := .type "tuple_iterator", data := .fields #[.ref p, .int 0 0] }
def enO (i : Addr) : Obj :=
  { cls := .type "enumerate", data := .fields #[.none, .bool false, .ref i, rawInt 0, .none, .none] }
theorem enum_newT (p : Addr) (its : Array Value) (k : Nat) (dd : Option Addr) (sl : Array (Option Value)) :
    Meets (Builtin.«enumerate.__new__» ⟨[.type "enumerate", .ref p], []⟩) (fun _ R s =>
      s.heap.get? p = some ⟨.type "tuple", dd, .seq its k, sl⟩ ∧
      R (.ok (.ret (.ref (s.heap.push (itO p)).objs.size))) { s with heap := (s.heap.push (itO p)).push (enO s.heap.objs.size) }) := by
  refine .of_wp fun prog w A R s h => ?_
  obtain ⟨hp, gn, dr, tk, os⟩ := s
  obtain ⟨hl, h⟩ := h
  have hsub := sub_enumerate
  have isT : (Shared.heap ⟨hp, gn, dr, tk, os⟩).IsTuple p its := ⟨_, hl, rfl, k, rfl⟩
  wp_walk using AutoSeq1.wpAny_loadPart' hl
  refine wpAny_stack_any fun _ => ?_
  refine wpAny_pure ?_
  split
  · rename_i c _ _ _ _ _
    cases (c == Value.type "enumerate") <;>
    · wp_walk using AutoSeq1.wpAny_loadPart' hl, wpAny_pyIter_tuple isT
      exact ⟨_, rfl, h⟩
  · wp_walk using AutoSeq1.wpAny_loadPart' hl, wpAny_pyIter_tuple isT
    exact ⟨_, rfl, h⟩
section
variable {prog : Program} {w : World} {A : Around} {E : Value → Shared → Prop} {s : Shared}
theorem call_enumT {p : Addr} {its : Array Value} {Q : Value → Shared → Prop} (hT : s.heap.IsTuple p its)
    (h : ∀ h', IsEnum h' (s.heap.objs.size + 1) s.heap.objs.size 0 .none → h'.IsTupleIter s.heap.objs.size p 0 →
      (∀ b o, s.heap.get? b = some o → h'.get? b = some o) → Q (.ref (s.heap.objs.size + 1)) { s with heap := h' }) :
    wpAny (model prog w) A (call (.type "enumerate") [.ref p]) Q E s := by
  obtain ⟨⟨c, dd, dt, sl⟩, hl, hc, k, hd⟩ := hT
  cases (show c = .type "tuple" from hc)
  cases (show dt = .seq its k from hd)
  have z1 : (s.heap.push (itO p)).objs.size = s.heap.objs.size + 1 := Heap.size_push ..
  have g1 : ((s.heap.push (itO p)).push (enO s.heap.objs.size)).get? (s.heap.objs.size + 1) = some (enO s.heap.objs.size) := by
    rw [← z1]
    exact Heap.get?_push_size _ rfl
  have g0 : ((s.heap.push (itO p)).push (enO s.heap.objs.size)).get? s.heap.objs.size = some (itO p) :=
    Heap.get?_push_of_some _ (Heap.get?_push_size _ rfl)
  refine callType_new F.called_enumerate (by decide) (F.typeCall_enumerate_1 _) (F.newCall_enumerate_1 _)
    (fun obj => F.args_object_init_2 obj _) F.entry_enumerate_new (enum_newT p its k dd sl) ⟨hl, ?_⟩
  show _ ∧ _
  rw [z1]
  exact ⟨⟨_, g1, rfl⟩, h _ g1 ⟨_, g0, rfl, rfl⟩ fun b o y => Heap.get?_push_of_some _ (Heap.get?_push_of_some _ y)⟩
end
/-- the tuple at a, each item in a new pair with its number -/
def IteT (K : PySem.W.Frag) (a : Addr) : It where
  go := fun i H => ∃ (xs : List V) (x : V), SqT K H a xs ∧ xs[i]? = some x
  yld := fun i H v H' => ∃ t x, v = .ref t ∧ H t = none ∧ H' = upd H t (.tup [.int (i : Nat), x]) ∧
    ∀ xs, SqT K H a xs → xs[i]? = some x
  stop := fun i H => ∃ xs : List V, SqT K H a xs ∧ xs.length = i
theorem apart {h : Heap} {a b : Addr} {o u : Obj} {m n : String} (ha : h.get? a = some o) (hb : h.get? b = some u)
    (ca : o.cls = .type m) (cb : u.cls = .type n) (d : m ≠ n) : a ≠ b := by
  rintro rfl
  rw [ha] at hb
  cases hb
  rw [ca] at cb
  cases cb
  exact d rfl
theorem turn_enumT {P : Program} {w : World} {K : PySem.W.Frag} {elts : List Expr} {kk : Nat} {tpos : Pos} (a e it : Addr) :
    Turn P w K (.Tuple elts kk tpos) (IteT K a) [e, it] e
      (fun i h => (∃ old, IsEnum h e it ((i : Nat) : Int) old) ∧ h.IsTupleIter it a i ∧ e ≠ it) where
  mem := by simp
  obj := fun i h st b hb => by
    obtain ⟨⟨old, he⟩, ⟨o, ho, hc, hd⟩, _⟩ := st
    rcases List.mem_cons.mp hb with z | z
    · subst z; exact ⟨_, he, fun v q => nomatch q⟩
    · have z := List.mem_singleton.mp z
      subst z; exact ⟨o, ho, fun v q => by rw [hd] at q; cases q⟩
  keep := fun i h h' st k => by
    obtain ⟨⟨old, he⟩, hi, hne⟩ := st
    exact ⟨⟨old, k e (by simp) _ he⟩, hi.at fun o q => k it (by simp) o q, hne⟩
  item := by
    intro X hP hw hK hc i pins s σ H E I hf st hg
    subst hP hw hK
    obtain ⟨⟨old, he⟩, hit, hne⟩ := st
    obtain ⟨xs, x, hq, hx⟩ := hg
    obtain ⟨its, rv, p, hz⟩ := I.tuple hq
    obtain ⟨u, hu, ru⟩ := rv.get hx
    have isT : s.heap.IsTuple a its.toArray := p
    obtain ⟨oa, ga, ca, _⟩ := id isT
    obtain ⟨oi, gi, ci, _⟩ := id hit
    have nai : a ≠ it := apart ga gi ca ci (by decide)
    have nea : e ≠ a := apart he ga rfl ca (by decide)
    have hel : e < s.heap.objs.size := Heap.lt_size he
    have hil : it < s.heap.objs.size := Heap.lt_size gi
    have hlt : i < its.toArray.size := by
      have := (List.getElem?_eq_some_iff.mp hu).1
      simpa using this
    refine wpAny_pyNext_enum_itemD (Draws.tuple (A := X.A.in1) (I.ok.hd hc) it a nai its.toArray) he ⟨hit, isT⟩ hlt hne
      (by simp [hne, nea]) fun y h' tk hy ho st' hT hsz hk => ?_
    have yu : y = u := by
      have : its[i]? = some y := by simpa using hy
      rw [hu] at this
      cases this; rfl
    subst yu
    refine ⟨_, rfl, wpAny_letOwnedTupleGo_enum (s := { s with heap := h', toks := tk + 1 }) ho fun h2 he2 sb => ?_⟩
    have hT2 := (sb.2 _ (Nat.ne_of_gt hel)).trans hT
    have new : ObjOk X.prog X.w (upd H s.heap.objs.size (.tup [.int (i : Nat), x])) h2 s.heap.objs.size (.tup [.int (i : Nat), x]) :=
      ⟨by show 2 ≤ sizeLine; decide, [.int i tk, y], .cons ⟨_, rfl⟩ (.cons ru .nil), ⟨_, hT2, rfl, _, rfl⟩⟩
    have old2 : ∀ b ob, b ∉ [e, it] → s.heap.get? b = some ob → h2.get? b = some ob := fun b ob hb q => by
      have b1 : b ≠ e := fun z => hb (by simp [z])
      have b2 : b ≠ it := fun z => hb (by simp [z])
      exact (sb.2 b b1).trans (hk b ob b1 b2 q)
    have I1 := I.turnedNew (t' := tk + 1) (ch := [e, it]) old2 hf (Nat.le_refl _) new
    refine ⟨.ref s.heap.objs.size, _, I1, rfl, ⟨_, x, rfl, I.hok.fresh (Nat.le_refl _), rfl, fun ys hy => by rw [I.tuple_inj hy hq]; exact hx⟩,
      ⟨⟨y, he2⟩, st'.1.at fun o q => (sb.2 it (Ne.symm hne)).trans q, hne⟩, fun b hb => ?_⟩
    have hb' : b < s.heap.objs.size := by
      rcases List.mem_cons.mp hb with z | z
      · rw [z]; exact hel
      · rw [List.mem_singleton.mp z]; exact hil
    rw [upd_ne (Nat.ne_of_lt hb')]
    exact (hf b hb).1
  done := by
    intro X hP hw hK hc i pins s σ H E I hf st hg
    subst hP hw hK
    obtain ⟨⟨old, he⟩, hit, hne⟩ := st
    obtain ⟨xs, hq, hx⟩ := hg
    obtain ⟨its, rv, p, hz⟩ := I.tuple hq
    obtain ⟨oa, ga, ca, _⟩ := id (show s.heap.IsTuple a its.toArray from p)
    obtain ⟨oi, gi, ci, _⟩ := id hit
    have nai : a ≠ it := apart ga gi ca ci (by decide)
    obtain ⟨f0, f1, f2, f3, f4, f5⟩ := hf it (by simp)
    have ei : i = its.toArray.size := by
      rw [← hx, rv.length, List.size_toArray]
    subst ei
    refine wpAny_pyNext_enum_endD (Draws.tuple (A := X.A.in1) (I.ok.hd hc) it a nai its.toArray) he ⟨hit, p⟩ fun h' eb => ?_
    exact ⟨rfl, I.turned (t' := s.toks) (fun b o hb q => eb b o hb q) f0 f1 f3 f4 f5⟩
  self := fun A i s Q E st h => by
    obtain ⟨⟨_, he⟩, _⟩ := st
    exact wpAny_pyIter_enum he h
/-- enumerate(e), e a tuple -/
def iEnumT (K : PySem.W.Frag) (te : TE) : TI := fun σ H R =>
  te σ H fun v H1 => ∃ a xs, v = .ref a ∧ SqT K H1 a xs ∧ R (IteT K a) H1
theorem pi_enumT {X : Cx} {e : Expr} {te : TE} {p pos tpos : Pos} {elts : List Expr} {kk : Nat} (hg : Gl X "enumerate")
    (hm : X.mg "enumerate" = none) (he : PE X e te) (hs : starEach [e] X.env = (false, eval e X.env) :: starEach [] X.env := by rfl) :
    PI X (.Tuple elts kk tpos) (.Call (.Name "enumerate" p) [e] [] pos) (iEnumT X.K te) := by
  refine ⟨fun pins s σ H R I h => ?_⟩
  refine Call_ (ld_blt I hg hm boot_enumerate (PyProof.Rows.callWith_type1 (args_cons
    (thn (he.run pins s σ H _ I h) fun u s1 ⟨v, H1, I1, r1, q1⟩ => args_nil ?_) hs) hs rfl))
  obtain ⟨a, xs, rfl, hq, q⟩ := q1
  cases r1
  obtain ⟨its, rv, isT, hz⟩ := I1.tuple hq
  refine call_enumT (show s1.heap.IsTuple a its.toArray from isT) fun h' en ti keep => wpAny_pyIter_enum en ?_
  refine ⟨s1.heap.objs.size + 1, [s1.heap.objs.size + 1, s1.heap.objs.size], _, _, H1, rfl, I1.kept (t' := s1.toks) keep,
    turn_enumT a (s1.heap.objs.size + 1) s1.heap.objs.size, ⟨⟨.none, en⟩, ti, Nat.succ_ne_self _⟩, fun b hb => ?_, q⟩
  have le : s1.heap.objs.size ≤ b := by
    rcases List.mem_cons.mp hb with z | z
    · rw [z]; exact Nat.le_add_right _ _
    · rw [List.mem_singleton.mp z]; exact Nat.le_refl _
  exact I1.fpOk le (I1.hok.fresh le)
/-- a loop over such pairs, its body already read -/
theorem for_enumT {K : PySem.W.Frag} {a : Addr} {xs : List V} {B : (L2.St → Hp → Prop) → V → L2.St → Hp → Prop} {nx : L2.St → Hp → Prop} {σ : L2.St} {H : Hp}
    (Pv : Nat → L2.St → Hp → Prop) (h0 : Pv 0 σ H) (hl : ∀ i σ' H', i ≤ xs.length → Pv i σ' H' → SqT K H' a xs)
    (hs : ∀ (i : Nat) x t σ' H', xs[i]? = some x → Pv i σ' H' → H' t = none → B (Pv (i + 1)) (.ref t) σ' (upd H' t (.tup [.int (i : Nat), x])))
    (hd : ∀ σ' H', Pv xs.length σ' H' → nx σ' H') :
    ∃ W : Nat → Nat → L2.St → Hp → Prop, (∃ m, W 0 m σ H) ∧ ∀ i m σ H, W i m σ H →
      ((IteT K a).stop i H ∧ nx σ H) ∨ ((IteT K a).go i H ∧ ∃ N : L2.St → Hp → Prop, (∀ σ' H', N σ' H' → ∃ m', m' < m ∧ W (i + 1) m' σ' H') ∧
        ∀ x H', (IteT K a).yld i H x H' → B N x σ H') := by
  refine ⟨fun i m σ H => m = xs.length - i ∧ i ≤ xs.length ∧ Pv i σ H, ⟨xs.length, by simp, Nat.zero_le _, h0⟩, ?_⟩
  rintro i m σ' H' ⟨rfl, hi, p⟩
  have ql := hl i σ' H' hi p
  by_cases c : i < xs.length
  · refine Or.inr ⟨⟨xs, xs[i], ql, by simp [c]⟩, Pv (i + 1), fun σ2 H2 p2 => ⟨xs.length - (i + 1), by omega, rfl, c, p2⟩, fun v H2 y => ?_⟩
    obtain ⟨t, x, rfl, nt, rfl, e2⟩ := y
    exact hs i x t σ' H' (e2 xs ql) p nt
  · have e : i = xs.length := by omega
    subst e
    exact Or.inl ⟨⟨xs, ql, rfl⟩, hd σ' H' p⟩
/-- .. in a comprehension -/
theorem lc_enumT {K : PySem.W.Frag} {a : Addr} {xs : List V} {gt : TG} {tt : TT} {te : TE} {vs : List Nat} {σ : L2.St} {H1 : Hp} {D : Addr} {Qd : Hp → Prop}
    (Pv : Nat → Hp → Prop) (h0 : Pv 0 (upd H1 D (.lst []))) (hl : ∀ i H, i ≤ xs.length → Pv i H → SqT K H a xs)
    (hs : ∀ (i : Nat) x t H, xs[i]? = some x → Pv i H → H t = none → gt (.ref t) (wipe σ vs) (upd H t (.tup [.int (i : Nat), x])) fun σ2 H2 =>
      wipe σ2 vs = wipe σ vs ∧ tt σ2 H2 fun b H3 => if b = true then te σ2 H3 fun y H4 => ∃ acc, H4 D = some (.lst acc) ∧
        acc.length < sizeLine ∧ Pv (i + 1) (upd H4 D (.lst (acc ++ [y]))) else Pv (i + 1) H3)
    (hd : ∀ H, Pv xs.length H → Qd H) :
    ∃ W : Nat → Nat → Hp → Prop, (∃ m, W 0 m (upd H1 D (.lst []))) ∧ ∀ i m H, W i m H →
      ((IteT K a).stop i H ∧ Qd H) ∨ ((IteT K a).go i H ∧ ∃ Nx : Hp → Prop, (∀ H', Nx H' → ∃ m', m' < m ∧ W (i + 1) m' H') ∧
        ∀ x H', (IteT K a).yld i H x H' → gt x (wipe σ vs) H' fun σ2 H2 => wipe σ2 vs = wipe σ vs ∧ tt σ2 H2 fun b H3 =>
          if b = true then te σ2 H3 fun y H4 => ∃ acc, H4 D = some (.lst acc) ∧ acc.length < sizeLine ∧
            Nx (upd H4 D (.lst (acc ++ [y]))) else Nx H3) := by
  refine ⟨fun i m H => m = xs.length - i ∧ i ≤ xs.length ∧ Pv i H, ⟨xs.length, by simp, Nat.zero_le _, h0⟩, ?_⟩
  rintro i m H ⟨rfl, hi, p⟩
  have ql := hl i H hi p
  by_cases c : i < xs.length
  · refine Or.inr ⟨⟨xs, xs[i], ql, by simp [c]⟩, Pv (i + 1), fun H2 p2 => ⟨xs.length - (i + 1), by omega, rfl, c, p2⟩, fun v H2 y => ?_⟩
    obtain ⟨t, x, rfl, nt, rfl, e2⟩ := y
    exact hs i x t H (e2 xs ql) p nt
  · have e : i = xs.length := by omega
    subst e
    exact Or.inl ⟨⟨xs, ql, rfl⟩, hd H p⟩
end Tw

set_option Elab.async false
set_option linter.all false
set_option maxRecDepth 100000
set_option maxHeartbeats 4000000
/-! dicts whose keys are nested tuples; the values are True -/
namespace Tw
open PySem PySem.Spec PyProof.Rows L2
/-! data that may be keys -/
mutual
def isK : PyData → Bool
  | .int _ => true
  | .str _ => true
  | .none => true
  | .tuple ds => isK1 ds
  | _ => false
def isK1 : List PyData → Bool
  | [] => true
  | d :: ds => isK d && isK1 ds
end
mutual
def nk : PyData → NestedKey
  | .int i => .num i
  | .str x => .text x
  | .tuple ds => .tup (nk1 ds)
  | _ => .none
def nk1 : List PyData → List NestedKey
  | [] => []
  | d :: ds => nk d :: nk1 ds
end
mutual
theorem nk_inj : ∀ {d e : PyData}, isK d = true → isK e = true → nk d = nk e → d = e
  | .int i, e, _, he, h => by
    cases e with
    | int j => simp only [nk, NestedKey.num.injEq] at h; rw [h]
    | bool _ => simp [isK] at he
    | list _ => simp [isK] at he
    | dict _ => simp [isK] at he
    | _ => simp [nk] at h
  | .str x, e, _, he, h => by
    cases e with
    | str y => simp only [nk, NestedKey.text.injEq] at h; rw [h]
    | bool _ => simp [isK] at he
    | list _ => simp [isK] at he
    | dict _ => simp [isK] at he
    | _ => simp [nk] at h
  | .none, e, _, he, h => by
    cases e with
    | none => rfl
    | bool _ => simp [isK] at he
    | list _ => simp [isK] at he
    | dict _ => simp [isK] at he
    | _ => simp [nk] at h
  | .tuple ds, e, hd, he, h => by
    cases e with
    | tuple es =>
      simp only [nk, NestedKey.tup.injEq] at h
      rw [isK] at hd he
      rw [nk1_inj hd he h]
    | bool _ => simp [isK] at he
    | list _ => simp [isK] at he
    | dict _ => simp [isK] at he
    | _ => simp [nk] at h
  | .bool _, _, hd, _, _ => by simp [isK] at hd
  | .list _, _, hd, _, _ => by simp [isK] at hd
  | .dict _, _, hd, _, _ => by simp [isK] at hd
theorem nk1_inj : ∀ {ds es : List PyData}, isK1 ds = true → isK1 es = true → nk1 ds = nk1 es → ds = es
  | [], [], _, _, _ => rfl
  | [], _ :: _, _, _, h => by simp [nk1] at h
  | _ :: _, [], _, _, h => by simp [nk1] at h
  | d :: ds, e :: es, hd, he, h => by
    rw [isK1, Bool.and_eq_true] at hd he
    simp only [nk1, List.cons.injEq] at h
    rw [nk_inj hd.1 he.1 h.1, nk1_inj hd.2 he.2 h.2]
end
mutual
theorem nk_dep : ∀ {d : PyData}, isK d = true → (nk d).depth = dep d
  | .int _, _ => rfl
  | .str _, _ => rfl
  | .none, _ => rfl
  | .tuple ds, h => by
    rw [isK] at h
    rw [nk, NestedKey.depth, dep, nk1_dep h]
  | .bool _, h => by simp [isK] at h
  | .list _, h => by simp [isK] at h
  | .dict _, h => by simp [isK] at h
theorem nk1_dep : ∀ {ds : List PyData}, isK1 ds = true → NestedKey.depthAll (nk1 ds) = dep1 ds
  | [], _ => rfl
  | d :: ds, h => by
    rw [isK1, Bool.and_eq_true] at h
    rw [nk1, NestedKey.depthAll, dep1, nk_dep h.1, nk1_dep h.2]
end
section
variable {X : Cx} {pins : List (Addr × Obj)} {σ : L2.St} {H : Hp} {s : Shared} {a : Addr}
mutual
theorem nk_is (I : L2.Inv X pins σ H s) : ∀ {v : V} {d : PyData} {u : Value}, Da a H v d → isK d = true → L2.RelV v u → NestedIs s.heap (nk d) u
  | _, _, _, .non, _, r => by cases r; exact .none
  | _, _, _, .int i, _, r => by obtain ⟨t, rfl⟩ := r; exact .int i t
  | _, _, _, .str x, _, r => by obtain ⟨t, rfl⟩ := r; exact .text x t
  | _, _, _, .tup n h t, g, r => by
    cases r
    rw [isK] at g
    obtain ⟨its, rv, ⟨o, ho, hc, m, hd⟩, _⟩ := I.tuple (SqT.of h)
    exact .tup ho hc hd (nk1_is I t g rv)
  | _, _, _, .bl _, g, _ => by simp [isK] at g
  | _, _, _, .lst _ _ _, g, _ => by simp [isK] at g
  | _, _, _, .dct _ _, g, _ => by simp [isK] at g
theorem nk1_is (I : L2.Inv X pins σ H s) : ∀ {vs : List V} {ds : List PyData} {us : List Value}, DaAll a H vs ds → isK1 ds = true → Vals vs us → NestedAll s.heap (nk1 ds) us
  | _, _, _, .nil, _, r => by cases r; exact .nil
  | _, _, _, .cons h t, g, r => by
    cases r with
    | cons r1 r2 =>
      rw [isK1, Bool.and_eq_true] at g
      exact .cons (nk_is I h g.1 r1) (nk1_is I t g.2 r2)
end
end
mutual
theorem da_new {a D : Addr} {H : Hp} (n : H D = none) : ∀ {v : V} {d : PyData}, Da a H v d → Da D H v d
  | _, _, .non => .non
  | _, _, .bl b => .bl b
  | _, _, .int i => .int i
  | _, _, .str x => .str x
  | _, _, .lst _ h t => .lst (ne_of_none h n) h (das_new n t)
  | _, _, .tup _ h t => .tup (ne_of_none h n) h (das_new n t)
  | _, _, .dct _ h => .dct (ne_of_none h n) h
theorem das_new {a D : Addr} {H : Hp} (n : H D = none) : ∀ {vs : List V} {ds : List PyData}, DaAll a H vs ds → DaAll D H vs ds
  | _, _, .nil => .nil
  | _, _, .cons h t => .cons (da_new n h) (das_new n t)
end
/-! the dict -/
abbrev Ent := NestedKey × Addr × Value
def FdO (P : Program) (w : World) (D : Addr) (xs : List Ent) : HO := .ext fun h => (D == sysModules) = false ∧ ∃ (o : Obj) (es : Array DictEntry) (ep : Nat), h.get? D = some o ∧ o.ExactDict ∧ o.data = .dict es ep ∧ es.toList = xs.map (entryOfKey (nestedKind P w))
theorem fd_ok {P : Program} {w : World} {H : Hp} {h : Heap} {D : Addr} {xs : List Ent} {o : Obj} {es : Array DictEntry} {ep : Nat} (hs : (D == sysModules) = false) (h1 : h.get? D = some o) (h2 : o.ExactDict) (h3 : o.data = .dict es ep) (h4 : es.toList = xs.map (entryOfKey (nestedKind P w))) :
    ObjOk P w H h D (FdO P w D xs) := ⟨⟨hs, o, es, ep, h1, h2, h3, h4⟩, ⟨o, h1⟩, fun _ _ ⟨a, o, es, ep, z1, z⟩ k => ⟨a, o, es, ep, k _ z1, z⟩⟩
/-- one pair -/
def FdE (D : Addr) (H : Hp) (x : Ent) (p : PyData) : Prop := x.1 = nk p ∧ x.2.2 = .bool true ∧ isK p = true ∧ dep p ≤ 8 ∧ Da D H (.ref x.2.1) p
/-- at D: a dict with the keys ps -/
def Fd (P : Program) (w : World) (H : Hp) (D : Addr) (ps : List PyData) : Prop := ∃ xs, H D = some (FdO P w D xs) ∧ Paired (FdE D H) xs ps ∧ ps.Nodup
theorem pair_imp {α β : Type} {F G : α → β → Prop} (h : ∀ a b, F a b → G a b) : ∀ {xs : List α} {ys : List β}, Paired F xs ys → Paired G xs ys
  | _, _, .nil => .nil
  | _, _, .cons a t => .cons (h _ _ a) (pair_imp h t)
theorem pair_len {α β : Type} {F : α → β → Prop} : ∀ {xs : List α} {ys : List β}, Paired F xs ys → xs.length = ys.length
  | _, _, .nil => rfl
  | _, _, .cons _ t => congrArg Nat.succ (pair_len t)
theorem Fd.same {P : Program} {w : World} {H H' : Hp} {D : Addr} {ps : List PyData} (s : Same H H') (h : Fd P w H D ps) : Fd P w H' D ps := by
  obtain ⟨xs, h1, h2, h3⟩ := h
  exact ⟨xs, s _ _ h1, pair_imp (fun x p ⟨a, b, c, d, e⟩ => ⟨a, b, c, d, e.same s⟩) h2, h3⟩
theorem Fd.some {P : Program} {w : World} {H : Hp} {D : Addr} {ps : List PyData} (h : Fd P w H D ps) : H D ≠ none := by
  obtain ⟨xs, h1, _⟩ := h
  rw [h1]
  exact fun z => by cases z
theorem fd_keys {D : Addr} {H : Hp} : ∀ {xs : List Ent} {ps : List PyData}, Paired (FdE D H) xs ps → xs.map (·.1) = ps.map nk
  | _, _, .nil => rfl
  | _, _, .cons ⟨a, _⟩ t => by rw [List.map_cons, List.map_cons, a, fd_keys t]
theorem fd_isK {D : Addr} {H : Hp} : ∀ {xs : List Ent} {ps : List PyData}, Paired (FdE D H) xs ps → ∀ p ∈ ps, isK p = true
  | _, _, .nil, p, m => by cases m
  | _, _, .cons ⟨_, _, c, _⟩ t, p, m => by
    rcases List.mem_cons.mp m with rfl | m
    · exact c
    · exact fd_isK t p m
theorem nodup_nk : ∀ {ps : List PyData}, ps.Nodup → (∀ p ∈ ps, isK p = true) → (ps.map nk).Nodup
  | [], _, _ => List.nodup_nil
  | p :: ps, h, g => by
    rw [List.nodup_cons] at h
    rw [List.map_cons, List.nodup_cons]
    refine ⟨fun m => ?_, nodup_nk h.2 fun q hq => g q (List.mem_cons_of_mem _ hq)⟩
    obtain ⟨q, hq, e⟩ := List.mem_map.mp m
    have := nk_inj (g q (List.mem_cons_of_mem _ hq)) (g p (List.mem_cons_self ..)) e
    exact h.1 (this ▸ hq)
def put (ps : List PyData) (p : PyData) : List PyData := if nk p ∈ ps.map nk then ps else ps ++ [p]
section
variable {X : Cx} {pins : List (Addr × Obj)} {σ : L2.St} {H : Hp} {s : Shared} {D : Addr} {ps : List PyData}
theorem fd_all (I : L2.Inv X pins σ H s) : ∀ {xs : List Ent} {ps : List PyData}, Paired (FdE D H) xs ps → ∀ x ∈ xs, (nestedKind X.prog X.w).is s.heap x.1 x.2.1
  | _, _, .nil, x, m => by cases m
  | _, _, .cons ⟨a, b, c, d, e⟩ t, x, m => by
    rcases List.mem_cons.mp m with rfl | m
    · exact ⟨by rw [a]; exact nk_is I e c rfl, by rw [a, nk_dep c]; exact d⟩
    · exact fd_all I t x m
theorem fd_at (I : L2.Inv X pins σ H s) {xs : List Ent} (h1 : H D = some (FdO X.prog X.w D xs)) (h2 : Paired (FdE D H) xs ps) (h3 : ps.Nodup) : (D == sysModules) = false ∧ s.heap.DictOfH (nestedKind X.prog X.w) D xs := by
  obtain ⟨⟨hs, o, es, ep, a1, a2, a3, a4⟩, _, _⟩ := (I.hok D _ h1 : ObjOk X.prog X.w H s.heap D (.ext _))
  exact ⟨hs, o, es, ep, a1, a2, a3, a4, fd_all I h2, by rw [fd_keys h2]; exact nodup_nk h3 (fd_isK h2)⟩
end
section
variable {X : Cx} {pos : Pos}
theorem pe_fnew : PE X (.Dict [] [] pos) (fun _ H Q => ∀ D H', Same H H' → H D = none → Fd X.prog X.w H' D [] → (∀ a v d, Da a H v d → Da D H' v d) → Kp D H' H' → Q (.ref D) H') := ⟨fun pins s σ H Q I h =>
  wpAny_Dict_empty ⟨.ref s.heap.objs.size, _, I.laid (a := s.heap.objs.size) (o := FdO X.prog X.w s.heap.objs.size []) (t' := s.toks) (fun _ _ q => Heap.get?_push_of_some _ q) (Nat.le_refl _)
      (fd_ok (es := #[]) (ep := 0) (beq_eq_false_iff_ne.mpr (Ne.symm (Nat.ne_of_lt I.big))) (Heap.get?_push_size _ rfl) ⟨rfl, rfl, rfl⟩ rfl rfl), rfl,
    have n := I.hok.fresh (Nat.le_refl _)
    h _ _ (same_new n) n ⟨[], upd_same, .nil, List.nodup_nil⟩ (fun a v d hd => (da_new n hd).same (same_new n)) (Kp.refl _ _)⟩⟩
/-- d[k] = True -/
def tFput (P : Program) (w : World) (td ty tv : TE) : TS := fun D σ H => tv σ H fun v H1 => td σ H1 fun x H2 => ty σ H2 fun y H3 => ∃ (a b : Addr) (p : PyData) (ps : List PyData), v = .bl true ∧ x = .ref a ∧ y = .ref b ∧ Da a H3 (.ref b) p ∧ isK p = true ∧ dep p ≤ 8 ∧
  Fd P w H3 a ps ∧ ps.length ≤ 100000 ∧ ∀ H4, Kp a H3 H4 → Fd P w H4 a (put ps p) → D.nx σ H4
theorem at_key {D : Addr} {H : Hp} {p : PyData} : ∀ {xs : List Ent} {ps : List PyData}, Paired (FdE D H) xs ps → ((atKey xs (nk p)).isSome = true ↔ nk p ∈ ps.map nk)
  | _, _, .nil => by simp [atKey]
  | x :: xs, q :: ps, .cons ⟨a, _⟩ t => by
    have ih := at_key (p := p) t
    unfold atKey at ih ⊢
    rw [List.find?_cons]
    by_cases e : x.1 = nk p
    · rw [decide_eq_true e]
      simp [← e, a]
    · rw [decide_eq_false e]
      have e2 : ¬ nk p = nk q := fun z => e (by rw [a, z])
      rw [List.map_cons, List.mem_cons]
      simp only [e2, false_or]
      exact ih
theorem put_same {D : Addr} {H : Hp} {k : NestedKey} : ∀ {xs : List Ent} {ps : List PyData}, Paired (FdE D H) xs ps → xs.map (putAt k (.bool true)) = xs
  | _, _, .nil => rfl
  | x :: xs, q :: ps, .cons ⟨_, b, _⟩ t => by
    rw [List.map_cons, put_same t]
    congr 1
    unfold putAt
    split
    · rw [← b]
    · rfl
theorem pair_snoc {α β : Type} {F : α → β → Prop} {a : α} {b : β} (h : F a b) : ∀ {xs : List α} {ys : List β}, Paired F xs ys → Paired F (xs ++ [a]) (ys ++ [b])
  | _, _, .nil => .cons h .nil
  | _, _, .cons x t => .cons x (pair_snoc h t)
theorem ps_fput {o i e : Expr} {pos' : Pos} {td ty tv : TE} (hu : X.A.units + 20 < cLine) (ho : PE X o td) (hi : PE X i ty) (hv : PE X e tv) (hs : swapsWith e (some (.Subscript o i pos')) pos.line X.env = pure false := by rfl) :
    PS X (.Assign [.Subscript o i pos'] e pos) (tFput X.prog X.w td ty tv) := by
  refine ⟨fun pins s σ H D I h => ?_⟩
  refine wpAny_Assign_Subscript (thn (hv.run pins s σ H _ I h) fun r s1 ⟨v, H1, I1, rv, q1⟩ => thn (ho.run pins s1 σ H1 _ I1 q1) fun u s2 ⟨x, H2, I2, rx, q2⟩ => thn (hi.run pins s2 σ H2 _ I2 q2) fun iv s3 ⟨y, H3, I3, ry, z⟩ => ?_) hs
  obtain ⟨a, b, p, ps, rfl, rfl, rfl, dp, kp, hdp, ⟨xs, h1, h2, h3⟩, hl, q⟩ := z
  obtain rfl : u = Value.ref a := rx
  obtain rfl : iv = Value.ref b := ry
  obtain rfl : r = Value.bool true := rv
  obtain ⟨hsm, dd⟩ := fd_at I3 h1 h2 h3
  have hz : xs.length ≤ sizeLine := sz (by rw [pair_len h2]; exact hl)
  refine wpAny_setItem_heap (knd := nestedKind X.prog X.w) (hsz := hz) (k := nk p) (show X.A.units + 1 + 8 < cLine by omega) ⟨nk_is I3 dp kp rfl, by rw [nk_dep kp]; exact hdp⟩ dd fun h' dd' hs' => ?_
  obtain ⟨q', es, ep, hq, g2, g3, g4, _, _⟩ := dd'
  have I4 := d_write (t' := s3.toks + (nestedKind X.prog X.w).draws (nk p)) (ob := FdO X.prog X.w a (storedH xs (nk p) b (.bool true))) I3 (by rw [h1]; exact True.intro) hs' ⟨q', hq⟩ (fd_ok hsm hq g2 g3 g4)
  have kp4 : Kp a H3 (upd H3 a (FdO X.prog X.w a (storedH xs (nk p) b (.bool true)))) := fun c oc nc ec => by rw [upd_ne nc]; exact ec
  refine ⟨σ, _, I4, q _ kp4 ⟨_, upd_same, ?_, ?_⟩⟩
  · have h2' : Paired (FdE a (upd H3 a (FdO X.prog X.w a (storedH xs (nk p) b (.bool true))))) xs ps := pair_imp (fun x p ⟨a1, a2, a3, a4, a5⟩ => ⟨a1, a2, a3, a4, a5.kp kp4⟩) h2
    unfold put
    by_cases m : nk p ∈ ps.map nk
    · rw [if_pos m]
      have e : storedH xs (nk p) b (.bool true) = xs := by
        unfold storedH
        rw [if_pos ((at_key h2).mpr m), put_same h2]
      rw [e] at h2' ⊢
      exact h2'
    · rw [if_neg m]
      have e : storedH xs (nk p) b (.bool true) = xs ++ [(nk p, b, .bool true)] := by
        unfold storedH
        rw [if_neg fun z => m ((at_key h2).mp z)]
      rw [e] at h2' kp4 ⊢
      exact pair_snoc ⟨rfl, rfl, kp, hdp, dp.kp kp4⟩ h2'
  · unfold put
    by_cases m : nk p ∈ ps.map nk
    · rw [if_pos m]; exact h3
    · rw [if_neg m, List.nodup_append]
      refine ⟨h3, List.nodup_cons.mpr ⟨(fun z => nomatch z), List.nodup_nil⟩, fun c hc d hd => ?_⟩
      rw [List.mem_singleton.mp hd]
      exact fun e => m (by rw [← e]; exact List.mem_map_of_mem hc)
/-- len(d) -/
def rLenF (P : Program) (w : World) : List V → Hp → VK → Prop := fun xs H Q => ∃ D ps, xs = [.ref D] ∧ Fd P w H D ps ∧ ps.length ≤ 100000 ∧ Q (.int ((ps.length : Nat) : Int)) H
theorem call_lenF : CallR X (.builtin "len") (rLenF X.prog X.w) := by
  intro pins s σ H xs us Q I r h
  obtain ⟨D, ps, rfl, ⟨ys, h1, h2, h3⟩, hl, q⟩ := h
  obtain ⟨u, rfl, rx⟩ := vals1 r
  obtain rfl : u = .ref D := rx
  obtain ⟨hsm, dd⟩ := fd_at I h1 h2 h3
  have e := pair_len h2
  refine call_len_dictH hsm dd (by rw [e]; omega) ?_
  rw [e]
  exact ⟨.int _, H, (I.tok _), ⟨_, rfl⟩, q⟩
/-- list(d) -/
def rListF (P : Program) (w : World) : List V → Hp → VK → Prop := fun xs H Q => ∃ D ps, xs = [.ref D] ∧ Fd P w H D ps ∧ ps.length ≤ 100000 ∧ ∀ l ys, H l = none → DaAll D H ys ps → Q (.ref l) (upd H l (.lst ys))
theorem refs_da {D : Addr} {H : Hp} : ∀ {xs : List Ent} {ps : List PyData}, Paired (FdE D H) xs ps → DaAll D H (xs.map fun x => V.ref x.2.1) ps
  | _, _, .nil => .nil
  | _, _, .cons ⟨_, _, _, _, e⟩ t => .cons e (refs_da t)
theorem refs_vals : ∀ {us : List Value} {xs : List Ent}, us.length = xs.length → (∀ (i : Nat) (u : Value), us[i]? = some u → ∃ x, xs[i]? = some x ∧ u = .ref x.2.1) → Vals (xs.map fun x => V.ref x.2.1) us
  | [], [], _, _ => .nil
  | [], _ :: _, h, _ => by simp at h
  | _ :: _, [], h, _ => by simp at h
  | u :: us, x :: xs, h, g => by
    refine .cons ?_ (refs_vals (by simpa using h) fun i v e => by simpa using g (i + 1) v (by simpa using e))
    obtain ⟨y, h1, h2⟩ := g 0 u rfl
    obtain rfl : x = y := by simpa using h1
    exact h2
theorem call_listF (hc : X.calm = true) : CallR X (.type "list") (rListF X.prog X.w) := by
  intro pins s σ H xs us Q I r h
  obtain ⟨D, ps, rfl, ⟨ys, h1, h2, h3⟩, hl, q⟩ := h
  obtain ⟨u, rfl, rx⟩ := vals1 r
  obtain rfl : u = .ref D := rx
  obtain ⟨hsm, dd⟩ := fd_at I h1 h2 h3
  have e := pair_len h2
  obtain ⟨es, ep, hr, hs, he⟩ := dd.raw
  refine PySem.W.kdl_call (PySem.KdlSrc.rawDict hsm) (I.ok.hd hc) hr (by rw [hs, e]; exact sz hl) fun h' tk acc c' keep hn ⟨z1, z2⟩ => ?_
  have hv : Vals (ys.map fun x => V.ref x.2.1) acc.toList := by
    refine refs_vals (by rw [Array.length_toList, z1, hs]) fun i v hi => ?_
    obtain ⟨hj, rfl⟩ := z2 i v (by rw [← Array.getElem?_toList]; exact hi)
    obtain ⟨y, hy, g1, _⟩ := he i hj
    exact ⟨y, hy, g1⟩
  refine ⟨.ref s.heap.objs.size, _, I.laid (t' := tk) keep (Nat.le_refl _) (show ObjOk X.prog X.w _ h' _ (.lst (ys.map fun x => V.ref x.2.1)) from ⟨sz (by rw [List.length_map, e]; exact hl), acc.toList, c', hv, by rw [Array.toArray_toList]; exact hn⟩), rfl, q _ _ (I.hok.fresh (Nat.le_refl _)) (refs_da h2)⟩
end
end Tw

set_option Elab.async false
set_option linter.all false
set_option maxRecDepth 100000
set_option maxHeartbeats 8000000
local macro_rules | `(tactic| walk_at "rd") => `(tactic| dsimp only [Evl.tCut, L2.tSeq, L2.tNext, L2.tRet, L2.tRetN, L2.tAsg, L2.gName, L2.tIfS, L2.tDrop, L2.tCons, L2.tNil, L2.tC, L2.tVar, L2.tCB, L2.tAndV, L2.tOrV, L2.tNotV, L2.tB, L2.tTest, L2.tOp, L2.tUn, L2.tNot, L2.tAnd, L2.tOr, L2.tIf, L2.tCall, L2.tTup, L2.tLst, L2.tNotT, L2.tYes, L2.gTup, L2.gCons, L2.gNil, L2.gSub, L2.tBM0, L2.tBM, L2.tWhile, L2.tFor, L2.iRng1, L2.iRng2, L2.tAugS, Tw.iEnumT, L2.tCKw, L2.tAug, L2.ipI, RT.iRevA, L2.tPar, L2.tPar3, L2.tSl, L2.tNoPart, L2.tPart, Tw.tRevT, Tw.tFput])
namespace K43
open PySem PySem.Spec PyProof.Rows L2 Tw
def top (i : Nat) : Stmt := PySem.Challenge.pw_twoletters_k43_whole_sayings_of_anything.main.body.getD i (.Pass ⟨0, 0, 0, 0⟩)
abbrev sWhole : Stmt := top 5
abbrev sRow : Stmt := top 7
abbrev sPoly : Stmt := top 10
abbrev sWidth : Stmt := top 13
abbrev sLettersOf : Stmt := top 14
abbrev sFreeIn : Stmt := top 15
abbrev sDepthIn : Stmt := top 16
abbrev sSmall : Stmt := top 21
abbrev sIsLetter : Stmt := top 22
abbrev sFit : Stmt := top 23
abbrev sUnlike : Stmt := top 24
abbrev sCheck : Stmt := top 25
abbrev sIsSaying : Stmt := top 26
abbrev sDepthOf : Stmt := top 27
abbrev sPolysOf : Stmt := top 28
abbrev sFreeLetters : Stmt := top 29
abbrev sWell : Stmt := top 31
abbrev sDraw : Stmt := top 32
abbrev sPick : Stmt := top 33
abbrev sLRow : Stmt := top 34
abbrev sNumber : Stmt := top 35
abbrev sLPoly : Stmt := top 36
abbrev sLeaf : Stmt := top 37
abbrev sMade : Stmt := top 38
abbrev sChanged : Stmt := top 39
abbrev sIsRow : Stmt := top 40
abbrev sIsPoly : Stmt := top 41
abbrev sDeep : Stmt := top 42
abbrev sPolys : Stmt := top 43
abbrev sFree : Stmt := top 44
abbrev sIsRight : Stmt := top 45
abbrev sRight : Stmt := top 46
abbrev sLaw : Stmt := top 47
/-- built-in names that the text gives no other meaning -/
structure Nb (mg : Str → Option Value) : Prop where
  isi : mg "isinstance" = none
  int : mg "int" = none
  bool : mg "bool" = none
  str : mg "str" = none
  tup : mg "tuple" = none
  all : mg "all" = none
  any : mg "any" = none
  len : mg "len" = none
  lst : mg "list" = none
  dvm : mg "divmod" = none
  rng : mg "range" = none
  max : mg "max" = none
  min : mg "min" = none
  abs : mg "abs" = none
  repr : mg "repr" = none
/-! ### what the answers are -/
def wholeB (d : PyData) : Bool := isIntD d && !isBoolD d
def lastD (ds : List PyData) (d : PyData) : Bool := match ds.getLast? with
  | some e => !(PyData.eqv e d)
  | none => true
def rowB : PyData → Bool
  | .tuple ds => (ds.map wholeB).all id && lastD ds (.int 0)
  | _ => false
def polyB : PyData → Bool
  | .tuple ds => (ds.map rowB).all id && lastD ds (.tuple [])
  | _ => false
/-- the answer is f of the datum -/
def spB (f : PyData → Bool) : Sp := fun vs H Q _ => ∃ a v d m, vs = [v] ∧ Da a H v d ∧ Sm m 1000 d ∧ ∀ H', Same H H' → Q (.bl (f d)) H'

theorem getLast_get {α : Type} {xs : List α} {x : α} (h : xs.getLast? = some x) : xs[xs.length - 1]? = some x := by
  rw [← List.getLast?_eq_getElem?]; exact h
theorem atI_end {α : Type} {xs : List α} {x : α} (h : xs.getLast? = some x) : atI xs (-1) = some x := by
  obtain ⟨ys, rfl⟩ := List.getLast?_eq_some_iff.mp h
  exact atI_last _ _
theorem last_both {a : Addr} {H : Hp} {xs : List V} {ds : List PyData} (h : DaAll a H xs ds) (ne : ds ≠ []) : ∃ x d, xs.getLast? = some x ∧ ds.getLast? = some d ∧ d ∈ ds ∧ Da a H x d := by
  have l := h.len
  have hp : 0 < ds.length := List.length_pos_iff.mpr ne
  have hx : xs.length - 1 < xs.length := by omega
  obtain ⟨d, e1, e2⟩ := h.get (List.getElem?_eq_getElem hx)
  refine ⟨xs[xs.length - 1], d, ?_, ?_, List.mem_of_getElem? e1, e2⟩
  · rw [List.getLast?_eq_getElem?]; exact List.getElem?_eq_getElem hx
  · rw [List.getLast?_eq_getElem?, ← l]; exact e1
section
variable {P : Program} {w : World} {K : PySem.W.Frag} {mg : Str → Option Value} {base : Heap}
theorem scWhole : FnScope ["value"] ["value"] (defScope sWhole) := ⟨rfl, rfl, rfl, by decide +kernel, rfl, by decide +kernel, by decide +kernel⟩
theorem ok_whole (D : Def K mg "is_whole" sWhole ["value"]) (nb : Nb mg) : Cal P w K mg base "is_whole" 1 ["value"] (spB wholeB) := by
  refine D.ok scWhole (fun vs H Q E h => ?_) (fun f cdv A out s H vs Q E hr h => ?_)
  · obtain ⟨a, v, d, m, rfl, _⟩ := h; rfl
  obtain ⟨a, v, d, m, rfl, hd, hs, q⟩ := h
  refine ⟨_, pss_one (ps_ret (pe_and (pe_callB (id := "isinstance") (r := rIsi K) call_isi (by rfl) nb.isi (by decide +kernel) (pa_cons (pv 0) (pa_cons (pe_bltn (v := .ty "int") (by rfl) nb.int (by decide +kernel) rfl) pa_nil)))
    (pe_one (pe_not (pe_callB (id := "isinstance") (r := rIsi K) call_isi (by rfl) nb.isi (by decide +kernel) (pa_cons (pv 0) (pa_cons (pe_bltn (v := .ty "bool") (by rfl) nb.bool (by decide +kernel) rfl) pa_nil))))))), ?_⟩
  walk_at "rd"
  refine ⟨v, rfl, isi hd (isi_int d) ⟨isIntD d, rfl, ?_⟩⟩
  have q' := q H (Same.refl H)
  unfold wholeB at q'
  cases hi : isIntD d with
  | false => rw [hi] at q'; exact iteF q'
  | true =>
    rw [hi] at q'
    refine iteT ⟨v, rfl, isi hd (isi_bool d) ⟨isBoolD d, rfl, q'⟩⟩

theorem tup_of {a : Addr} {H : Hp} {v : V} {d : PyData} (h : Da a H v d) (t : isTupD d = true) : ∃ p xs ds, v = .ref p ∧ d = .tuple ds ∧ p ≠ a ∧ H p = some (.tup xs) ∧ DaAll a H xs ds := by
  cases h with
  | tup n e r => exact ⟨_, _, _, rfl, rfl, n, e, r⟩
  | _ => exact absurd t (by simp [isTupD])
theorem int_of {a : Addr} {H : Hp} {v : V} {d : PyData} (h : Da a H v d) (t : wholeB d = true) : ∃ i, v = .int i ∧ d = .int i := by
  cases h with
  | int i => exact ⟨i, rfl, rfl⟩
  | _ => exact absurd t (by simp [wholeB, isIntD, isBoolD])
theorem not_tup {d : PyData} (h : isTupD d = false) : rowB d = false ∧ polyB d = false := by
  cases d <;> first | exact ⟨rfl, rfl⟩ | cases h
theorem row_tup {d : PyData} (h : rowB d = true) : isTupD d = true := by
  cases d <;> first | rfl | cases h
theorem all_mem {f : PyData → Bool} {ds : List PyData} {d : PyData} (h : (ds.map f).all id = true) (m : d ∈ ds) : f d = true := by
  rw [List.all_eq_true] at h
  exact h (f d) (List.mem_map_of_mem m)
theorem empty_iff {a : Addr} {H : Hp} {xs : List V} {ds : List PyData} (h : DaAll a H xs ds) : xs.isEmpty = ds.isEmpty := by
  cases h <;> rfl
theorem wipe1 (σ : L2.St) (j : Nat) (x : V) : wipe ((wipe σ [j]).set j (some x)) [j] = wipe σ [j] := by
  show ((σ.set j none).set j (some x)).set j none = σ.set j none
  rw [List.set_set, List.set_set]

theorem scRow : FnScope ["value", "number"] ["value"] (defScope sRow) := ⟨rfl, rfl, rfl, by decide +kernel, rfl, by decide +kernel, by decide +kernel⟩
theorem ok_row (D : Def K mg "is_row" sRow ["value"]) (nb : Nb mg) (c1 : Cal P w K mg base "is_whole" 1 ["value"] (spB wholeB)) : Cal P w K mg base "is_row" 2 ["value"] (spB rowB) := by
  refine D.ok scRow (fun vs H Q E h => ?_) (fun f cdv A out s H vs Q E hr h => ?_)
  · obtain ⟨a, v, d, m, rfl, _⟩ := h; rfl
  obtain ⟨a, v, d, m, rfl, hd, hs, q⟩ := h
  refine ⟨_, pss_cons (ps_if (PW.pt (pw_or (pt_not (pt_val (pe_callB (id := "isinstance") (r := rIsi K) call_isi (by rfl) nb.isi (by decide +kernel) (pa_cons (pv 0) (pa_cons (pe_bltn (v := .ty "tuple") (by rfl) nb.tup (by decide +kernel) rfl) pa_nil)))))
      (pw_or1 (pt_not (pt_val (pe_callB (cr_all rfl) (by rfl) nb.all (by decide +kernel) (pa_cons
        (pe_lc (own := [("number", 1)]) (g := gName 1) (tt := tYes) rfl scRow.nd (pi_tup (pv 0)) (blkOk_by (N := ["value", "number"]) (sc := defScope sRow) (by decide +kernel))
          (fun _ _ _ _ _ => pg_name (i := 1) scRow.nd rfl (Or.inl rfl)) (fun _ _ _ _ _ => pts_nil) (fun _ _ _ _ _ => pe_cal c1 hr (Nat.le_refl 1) (by rfl) (pa_cons (pv 1) pa_nil))) pa_nil)))))))
      (pss_one (ps_ret pe_bl)) pss_nil)
    (pss_one (ps_ret (pe_or (pe_notT (pv 0)) (pe_one (pe_cmpR op_ne (pe_ix ix_tup (pv 0) (pe_un un_neg pe_int) (fun _ _ => rfl)) pe_int (nomark _)))))), ?_⟩
  walk_at "rd"
  refine ⟨v, rfl, isi hd (isi_tup d) ⟨isTupD d, rfl, ?_⟩⟩
  cases ht : isTupD d with
  | false =>
    have q' := q H (Same.refl H)
    rw [(not_tup ht).1] at q'
    exact iteT (iteT q')
  | true =>
    obtain ⟨p, xs, ds, rfl, rfl, np, hp, hx⟩ := tup_of hd ht
    have hn : xs.length < 100000 := by rw [hx.len]; have := hs.len; omega
    refine iteF (lc_mapT (fun d => V.bl (wholeB d)) rfl hp hx hn (wipe1 _ 1) (fun x d H1 hm s1 dx R k => ?_) fun L H1 s1 nL hL => ?_)
    · exact ⟨x, rfl, a, x, d, _, rfl, dx, hs.mem hm, k⟩
    refine ⟨L, ds.map wholeB, rfl, SqL.of (by rw [List.map_map]; exact hL), _, rfl, ?_⟩
    have q' : Q (.bl ((ds.map wholeB).all id && lastD ds (.int 0))) H1 := q H1 s1
    cases hw : (ds.map wholeB).all id with
    | false => rw [hw] at q'; exact iteT q'
    | true =>
      rw [hw] at q'
      refine iteF ⟨.ref p, rfl, _, .inr (.inl ⟨xs, SqT.of (s1 _ _ hp), rfl⟩), _, rfl, ?_⟩
      rw [empty_iff hx, Bool.not_not]
      cases hds : ds with
      | nil => subst hds; exact iteT q'
      | cons d0 dr =>
        have ne : ds ≠ [] := by rw [hds]; simp
        obtain ⟨x, dl, e1, e2, e3, e4⟩ := last_both hx ne
        obtain ⟨i, rfl, rfl⟩ := int_of e4 (all_mem hw e3)
        refine iteF ⟨.ref p, rfl, 1, rfl, p, xs, -1, .int i, rfl, rfl, SqT.of (s1 _ _ hp), atI_end e1, rfl, ?_⟩
        unfold lastD at q'
        rw [e2] at q'
        rw [dec_int]
        simpa [PyData.eqv] using q'

/-- not value or value[-1] != 0, both ways of saying it: what is asked of the last number -/
theorem end_int {a p : Addr} {H : Hp} {Q : VK} {xs : List V} {ds : List PyData} (hx : DaAll a H xs ds) (hp : H p = some (.tup xs)) (ne : ds ≠ []) (hw : (ds.map wholeB).all id = true)
    (q : Q (.bl (lastD ds (.int 0))) H) : rIxT K (.ref p) (.int (-1)) H fun x H1 => rNe x (.int 0) H1 Q := by
  obtain ⟨x, dl, e1, e2, e3, e4⟩ := last_both hx ne
  obtain ⟨i, rfl, rfl⟩ := int_of e4 (all_mem hw e3)
  refine ⟨p, xs, -1, .int i, rfl, rfl, SqT.of hp, atI_end e1, rfl, ?_⟩
  unfold lastD at q
  rw [e2] at q
  rw [dec_int]
  simpa [PyData.eqv] using q

theorem end_row {a p : Addr} {H : Hp} {Q : VK} {xs : List V} {ds : List PyData} (hx : DaAll a H xs ds) (hp : H p = some (.tup xs)) (ne : ds ≠ []) (hw : (ds.map rowB).all id = true)
    (q : ∀ H', Same H H' → Q (.bl (lastD ds (.tuple []))) H') :
    rIxT K (.ref p) (.int (-1)) H fun x H1 => ([] : List V).length ≤ sizeLine ∧ ∀ t, H1 t = none → rT0 true K x (.ref t) (upd H1 t (.tup [])) Q := by
  obtain ⟨x, dl, e1, e2, e3, e4⟩ := last_both hx ne
  obtain ⟨p2, xs2, ds2, rfl, rfl, np2, hp2, hx2⟩ := tup_of e4 (row_tup (all_mem hw e3))
  refine ⟨p, xs, -1, .ref p2, rfl, rfl, SqT.of hp, atI_end e1, sz (by decide), fun t nt => ?_⟩
  have s2 := same_new (o := .tup []) nt
  refine ⟨p2, t, xs2, [], rfl, rfl, SqT.of (s2 _ _ hp2), SqT.of upd_same, rfl, ?_⟩
  have q' := q _ s2
  unfold lastD at q'
  rw [e2] at q'
  cases hx2 with
  | nil => simpa [PyData.eqv, PyData.eqvAll] using q'
  | cons _ _ => simpa [PyData.eqv, PyData.eqvAll] using q'
theorem scPoly : FnScope ["value", "row"] ["value"] (defScope sPoly) := ⟨rfl, rfl, rfl, by decide +kernel, rfl, by decide +kernel, by decide +kernel⟩
theorem ok_poly (D : Def K mg "is_poly" sPoly ["value"]) (nb : Nb mg) (c1 : Cal P w K mg base "is_row" 2 ["value"] (spB rowB)) : Cal P w K mg base "is_poly" 3 ["value"] (spB polyB) := by
  refine D.ok scPoly (fun vs H Q E h => ?_) (fun f cdv A out s H vs Q E hr h => ?_)
  · obtain ⟨a, v, d, m, rfl, _⟩ := h; rfl
  obtain ⟨a, v, d, m, rfl, hd, hs, q⟩ := h
  refine ⟨_, pss_cons (ps_if (PW.pt (pw_or (pt_not (pt_val (pe_callB (id := "isinstance") (r := rIsi K) call_isi (by rfl) nb.isi (by decide +kernel) (pa_cons (pv 0) (pa_cons (pe_bltn (v := .ty "tuple") (by rfl) nb.tup (by decide +kernel) rfl) pa_nil)))))
      (pw_or1 (pt_not (pt_val (pe_callB (cr_all rfl) (by rfl) nb.all (by decide +kernel) (pa_cons
        (pe_lc (own := [("row", 1)]) (g := gName 1) (tt := tYes) rfl scPoly.nd (pi_tup (pv 0)) (blkOk_by (N := ["value", "row"]) (sc := defScope sPoly) (by decide +kernel))
          (fun _ _ _ _ _ => pg_name (i := 1) scPoly.nd rfl (Or.inl rfl)) (fun _ _ _ _ _ => pts_nil) (fun _ _ _ _ _ => pe_cal c1 hr (Nat.le_refl 2) (by rfl) (pa_cons (pv 1) pa_nil))) pa_nil)))))))
      (pss_one (ps_ret pe_bl)) pss_nil)
    (pss_one (ps_ret (pe_or (pe_notT (pv 0)) (pe_one (pe_cmpR (op_neT0 hr.units) (pe_ix ix_tup (pv 0) (pe_un un_neg pe_int) (fun _ _ => rfl)) (pe_tup pa_nil) (nomark _)))))), ?_⟩
  walk_at "rd"
  refine ⟨v, rfl, isi hd (isi_tup d) ⟨isTupD d, rfl, ?_⟩⟩
  cases ht : isTupD d with
  | false =>
    have q' := q H (Same.refl H)
    rw [(not_tup ht).2] at q'
    exact iteT (iteT q')
  | true =>
    obtain ⟨p, xs, ds, rfl, rfl, np, hp, hx⟩ := tup_of hd ht
    have hn : xs.length < 100000 := by rw [hx.len]; have := hs.len; omega
    refine iteF (lc_mapT (fun d => V.bl (rowB d)) rfl hp hx hn (wipe1 _ 1) (fun x d H1 hm s1 dx R k => ?_) fun L H1 s1 nL hL => ?_)
    · exact ⟨x, rfl, a, x, d, _, rfl, dx, hs.mem hm, k⟩
    refine ⟨L, ds.map rowB, rfl, SqL.of (by rw [List.map_map]; exact hL), _, rfl, ?_⟩
    have q' : ∀ H', Same H H' → Q (.bl ((ds.map rowB).all id && lastD ds (.tuple []))) H' := q
    cases hw : (ds.map rowB).all id with
    | false => rw [hw] at q'; exact iteT (q' _ s1)
    | true =>
      rw [hw] at q'
      refine iteF ⟨.ref p, rfl, _, .inr (.inl ⟨xs, SqT.of (s1 _ _ hp), rfl⟩), _, rfl, ?_⟩
      rw [empty_iff hx, Bool.not_not]
      cases hds : ds with
      | nil => subst hds; exact iteT (q' _ s1)
      | cons d0 dr =>
        have ne : ds ≠ [] := by rw [hds]; simp
        exact iteF ⟨.ref p, rfl, 1, rfl, end_row (hx.same s1) (s1 _ _ hp) ne hw fun H' s2 => q' _ (s1.trans s2)⟩
end
end K43

set_option Elab.async false
set_option linter.all false
set_option maxRecDepth 100000
set_option maxHeartbeats 8000000
local macro_rules | `(tactic| walk_at "rd") => `(tactic| dsimp only [Evl.tCut, L2.tSeq, L2.tNext, L2.tRet, L2.tRetN, L2.tAsg, L2.gName, L2.tIfS, L2.tDrop, L2.tCons, L2.tNil, L2.tC, L2.tVar, L2.tCB, L2.tAndV, L2.tOrV, L2.tNotV, L2.tB, L2.tTest, L2.tOp, L2.tUn, L2.tNot, L2.tAnd, L2.tOr, L2.tIf, L2.tCall, L2.tTup, L2.tLst, L2.tNotT, L2.tYes, L2.gTup, L2.gCons, L2.gNil, L2.gSub, L2.tBM0, L2.tBM, L2.tWhile, L2.tFor, L2.iRng1, L2.iRng2, L2.tAugS, Tw.iEnumT, L2.tCKw, L2.tAug, L2.ipI, RT.iRevA, L2.tPar, L2.tPar3, L2.tSl, L2.tNoPart, L2.tPart, Tw.tRevT, Tw.tFput])
namespace K43
open PySem PySem.Spec PyProof.Rows L2 Tw
/-! sayings -/
inductive Say where
  | tt | ff
  | nn (s : Say)
  | bo (b : Bool) (s t : Say)
  | qu (al x : Bool) (s : Say)
  | re (w : Str) (p : PyData)
def rels : List Str := ["below", "at", "above", "not below", "not at", "not above"]
def words : List Str := ["true", "false", "not", "both", "either", "all", "some"]
def rowsOf : PyData → List PyData
  | .tuple ds => ds
  | _ => []
def lenD : PyData → Nat
  | .tuple ds => ds.length
  | _ => 0
def widD (p : PyData) : Nat := (rowsOf p).foldr (fun r m => max (lenD r) m) 0
def smallB (p : PyData) : Bool := polyB p && decide (lenD p ≤ 5) && decide (widD p ≤ 5)
def b0 (s : Say) (rest : List PyData) : Option Say := if rest.isEmpty then some s else none
def b1 (f : Say → Say) (rs : List (Option Say)) : Option Say := match rs with
  | [o] => o.map f
  | _ => none
def b2 (f : Say → Say → Say) (rs : List (Option Say)) : Option Say := match rs with
  | [o, u] => match o, u with
    | some s, some t => some (f s t)
    | _, _ => none
  | _ => none
def letOf (d : PyData) : Option Bool := match d with
  | .str l => if l = "x" then some true else if l = "y" then some false else none
  | _ => none
def bq (al : Bool) (rest : List PyData) (rs : List (Option Say)) : Option Say := match rest with
  | [l, _] => match rs with
    | [_, o] => match letOf l, o with
      | some x, some s => some (.qu al x s)
      | _, _ => none
    | _ => none
  | _ => none
def br (w : Str) (rest : List PyData) : Option Say := match rest with
  | [p] => if smallB p then some (.re w p) else none
  | _ => none
def bw (w : Str) (rest : List PyData) (rs : List (Option Say)) : Option Say :=
  if w = "true" then b0 .tt rest else if w = "false" then b0 .ff rest else if w = "not" then b1 .nn rs
  else if w = "both" then b2 (.bo true) rs else if w = "either" then b2 (.bo false) rs
  else if w = "all" then bq true rest rs else if w = "some" then bq false rest rs
  else if w ∈ rels then br w rest else none
def build (ds : List PyData) (os : List (Option Say)) : Option Say := match ds with
  | d :: rest => match d with
    | .str w => bw w rest os.tail
    | _ => none
  | [] => none
mutual
def say : PyData → Option Say
  | .tuple ds => build ds (says ds)
  | _ => none
def says : List PyData → List (Option Say)
  | [] => []
  | d :: ds => say d :: says ds
end
def Say.d : Say → PyData
  | .tt => .tuple [.str "true"]
  | .ff => .tuple [.str "false"]
  | .nn s => .tuple [.str "not", s.d]
  | .bo b s t => .tuple [.str (if b then "both" else "either"), s.d, t.d]
  | .qu al x s => .tuple [.str (if al then "all" else "some"), .str (if x then "x" else "y"), s.d]
  | .re w p => .tuple [.str w, p]
def Say.depth : Say → Nat
  | .nn s => 1 + s.depth
  | .bo _ s t => 1 + max s.depth t.depth
  | .qu _ _ s => 1 + s.depth
  | _ => 1
def inK (ps : List PyData) (q : PyData) : Bool := decide (nk q ∈ ps.map nk)
/-- the new ones behind -/
def un (ps qs : List PyData) : List PyData := ps ++ qs.filter fun q => !inK ps q
def Say.polys : Say → List PyData
  | .nn s => s.polys
  | .bo _ s t => un s.polys t.polys
  | .qu _ _ s => s.polys
  | .re _ p => [p]
  | _ => []
def Say.free (x : Bool) : Say → Bool
  | .nn s => s.free x
  | .bo _ s t => s.free x || t.free x
  | .qu _ y s => (y != x) && s.free x
  | .re _ p => if x then decide (1 < widD p) else decide (1 < lenD p)
  | _ => false
/-- each relation's word is one of the six, each poly a small one -/
def Say.ok : Say → Prop
  | .nn s => s.ok
  | .bo _ s t => s.ok ∧ t.ok
  | .qu _ _ s => s.ok
  | .re w p => w ∈ rels ∧ smallB p = true
  | _ => True
theorem words_apart : ∀ w ∈ rels, w ∉ words := by decide
theorem Say.depth_pos : ∀ s : Say, 1 ≤ s.depth
  | .tt => Nat.le_refl _
  | .ff => Nat.le_refl _
  | .nn s => by rw [Say.depth]; omega
  | .bo _ s t => by rw [Say.depth]; omega
  | .qu _ _ s => by rw [Say.depth]; omega
  | .re _ _ => Nat.le_refl _
theorem says_nil {ds : List PyData} (h : says ds = []) : ds = [] := by
  cases ds with
  | nil => rfl
  | cons d r => simp [says] at h
theorem says_len : ∀ ds : List PyData, (says ds).length = ds.length
  | [] => rfl
  | d :: ds => by rw [says, List.length_cons, List.length_cons, says_len ds]
theorem letOf_some {d : PyData} {x : Bool} (h : letOf d = some x) : d = .str (if x then "x" else "y") := by
  unfold letOf at h
  split at h
  · split at h
    · rename_i e; cases h; subst e; rfl
    · split at h
      · rename_i e; cases h; subst e; rfl
      · cases h
  · cases h
theorem build_some {ds : List PyData} {s : Say} (H : ∀ (i : Nat) (t : Say), (says ds)[i]? = some (some t) → ∃ d, ds[i]? = some d ∧ d = t.d ∧ t.ok) (h : build ds (says ds) = some s) : PyData.tuple ds = s.d ∧ s.ok := by
  unfold build at h
  split at h
  · rename_i d rest
    split at h
    · rename_i w
      rw [says, List.tail_cons] at h
      have hl := says_len rest
      have g1 : ∀ f, b1 f (says rest) = some s → ∃ t, rest = [t.d] ∧ t.ok ∧ s = f t := fun f e => by
        unfold b1 at e
        split at e
        · rename_i o eo
          cases o with
          | none => cases e
          | some t =>
            obtain rfl : f t = s := by simpa using e
            obtain ⟨x, h1, h2⟩ := H 1 t (by rw [says, eo]; rfl)
            rw [eo] at hl
            match rest, hl, h1 with
            | [y], _, h1 =>
              obtain rfl : y = x := by simpa using h1
              exact ⟨t, by rw [h2.1], h2.2, rfl⟩
        · cases e
      have g2 : ∀ f, b2 f (says rest) = some s → ∃ t u, rest = [t.d, u.d] ∧ t.ok ∧ u.ok ∧ s = f t u := fun f e => by
        unfold b2 at e
        split at e
        · rename_i o o2 eo
          split at e
          · rename_i t u
            cases e
            obtain ⟨x, h1, h2⟩ := H 1 t (by rw [says, eo]; rfl)
            obtain ⟨y, h3, h4⟩ := H 2 u (by rw [says, eo]; rfl)
            rw [eo] at hl
            match rest, hl, h1, h3 with
            | [a, b], _, h1, h3 =>
              obtain rfl : a = x := by simpa using h1
              obtain rfl : b = y := by simpa using h3
              exact ⟨t, u, by rw [h2.1, h4.1], h2.2, h4.2, rfl⟩
          · cases e
        · cases e
      have gq : ∀ al, bq al rest (says rest) = some s → ∃ x t, rest = [.str (if x then "x" else "y"), t.d] ∧ t.ok ∧ s = .qu al x t := fun al e => by
        unfold bq at e
        split at e
        · rename_i l y
          split at e
          · rename_i o o2 eo
            split at e
            · rename_i x t el
              cases e
              obtain ⟨z, h1, h2⟩ := H 2 t (by rw [says, eo]; rfl)
              obtain rfl : y = z := by simpa using h1
              exact ⟨x, t, by rw [letOf_some el, h2.1], h2.2, rfl⟩
            · cases e
          · cases e
        · cases e
      have g0 : ∀ t, b0 t rest = some s → rest = [] ∧ s = t := fun t e => by
        unfold b0 at e
        split at e
        · rename_i q
          cases e
          exact ⟨by simpa using q, rfl⟩
        · cases e
      unfold bw at h
      split at h
      · rename_i e; subst e
        obtain ⟨rfl, rfl⟩ := g0 _ h
        exact ⟨rfl, trivial⟩
      split at h
      · rename_i e; subst e
        obtain ⟨rfl, rfl⟩ := g0 _ h
        exact ⟨rfl, trivial⟩
      split at h
      · rename_i e; subst e
        obtain ⟨t, rfl, o, rfl⟩ := g1 _ h
        exact ⟨rfl, o⟩
      split at h
      · rename_i e; subst e
        obtain ⟨t, u, rfl, o, o2, rfl⟩ := g2 _ h
        exact ⟨rfl, o, o2⟩
      split at h
      · rename_i e; subst e
        obtain ⟨t, u, rfl, o, o2, rfl⟩ := g2 _ h
        exact ⟨rfl, o, o2⟩
      split at h
      · rename_i e; subst e
        obtain ⟨x, t, rfl, o, rfl⟩ := gq _ h
        exact ⟨rfl, o⟩
      split at h
      · rename_i e; subst e
        obtain ⟨x, t, rfl, o, rfl⟩ := gq _ h
        exact ⟨rfl, o⟩
      split at h
      · rename_i m
        unfold br at h
        split at h
        · split at h
          · rename_i g
            cases h
            exact ⟨rfl, m, g⟩
          · cases h
        · cases h
      · cases h
    · cases h
  · cases h
mutual
theorem say_some : ∀ {d : PyData} {s : Say}, say d = some s → d = s.d ∧ s.ok
  | .tuple ds, s, h => by
    rw [say] at h
    exact build_some (fun i t e => says_some e) h
  | .none, _, h => by simp [say] at h
  | .bool _, _, h => by simp [say] at h
  | .int _, _, h => by simp [say] at h
  | .str _, _, h => by simp [say] at h
  | .list _, _, h => by simp [say] at h
  | .dict _, _, h => by simp [say] at h
theorem says_some : ∀ {ds : List PyData} {i : Nat} {s : Say}, (says ds)[i]? = some (some s) → ∃ d, ds[i]? = some d ∧ d = s.d ∧ s.ok
  | [], _, _, h => by simp [says] at h
  | d :: ds, 0, s, h => by
    rw [says] at h
    exact ⟨d, rfl, say_some (by simpa using h)⟩
  | d :: ds, i + 1, s, h => by
    rw [says] at h
    obtain ⟨e, h1, h2⟩ := says_some (ds := ds) (i := i) (by simpa using h)
    exact ⟨e, by simpa using h1, h2⟩
end
end K43

set_option Elab.async false
set_option linter.all false
set_option maxRecDepth 100000
set_option maxHeartbeats 8000000
local macro_rules | `(tactic| walk_at "rd") => `(tactic| dsimp only [Evl.tCut, L2.tSeq, L2.tNext, L2.tRet, L2.tRetN, L2.tAsg, L2.gName, L2.tIfS, L2.tDrop, L2.tCons, L2.tNil, L2.tC, L2.tVar, L2.tCB, L2.tAndV, L2.tOrV, L2.tNotV, L2.tB, L2.tTest, L2.tOp, L2.tUn, L2.tNot, L2.tAnd, L2.tOr, L2.tIf, L2.tCall, L2.tTup, L2.tLst, L2.tNotT, L2.tYes, L2.gTup, L2.gCons, L2.gNil, L2.gSub, L2.tBM0, L2.tBM, L2.tWhile, L2.tFor, L2.iRng1, L2.iRng2, L2.tAugS, Tw.iEnumT, L2.tCKw, L2.tAug, L2.ipI, RT.iRevA, L2.tPar, L2.tPar3, L2.tSl, L2.tNoPart, L2.tPart, Tw.tRevT, Tw.tFput])
namespace K43
open PySem PySem.Spec PyProof.Rows L2 Tw
/-! equal data, keys -/
mutual
theorem eqv_nk : ∀ {d e : PyData}, isK d = true → isK e = true → PyData.eqv d e = decide (nk d = nk e)
  | .int i, .int j, _, _ => by
    rw [PyData.eqv, Bool.eq_iff_iff]
    simp [nk]
  | .str x, .str y, _, _ => by
    rw [PyData.eqv, Bool.eq_iff_iff]
    simp [nk]
  | .none, .none, _, _ => by simp [PyData.eqv, nk]
  | .tuple ds, .tuple es, h, g => by
    rw [isK] at h g
    rw [PyData.eqv, eqv1_nk h g, Bool.eq_iff_iff]
    simp [nk]
  | .bool _, _, h, _ => by simp [isK] at h
  | .list _, _, h, _ => by simp [isK] at h
  | .dict _, _, h, _ => by simp [isK] at h
  | _, .bool _, _, g => by simp [isK] at g
  | _, .list _, _, g => by simp [isK] at g
  | _, .dict _, _, g => by simp [isK] at g
  | .int _, .str _, _, _ => by simp [PyData.eqv, nk]
  | .int _, .none, _, _ => by simp [PyData.eqv, nk]
  | .int _, .tuple _, _, _ => by simp [PyData.eqv, nk]
  | .str _, .int _, _, _ => by simp [PyData.eqv, nk]
  | .str _, .none, _, _ => by simp [PyData.eqv, nk]
  | .str _, .tuple _, _, _ => by simp [PyData.eqv, nk]
  | .none, .int _, _, _ => by simp [PyData.eqv, nk]
  | .none, .str _, _, _ => by simp [PyData.eqv, nk]
  | .none, .tuple _, _, _ => by simp [PyData.eqv, nk]
  | .tuple _, .int _, _, _ => by simp [PyData.eqv, nk]
  | .tuple _, .str _, _, _ => by simp [PyData.eqv, nk]
  | .tuple _, .none, _, _ => by simp [PyData.eqv, nk]
theorem eqv1_nk : ∀ {ds es : List PyData}, isK1 ds = true → isK1 es = true → PyData.eqvAll ds es = decide (nk1 ds = nk1 es)
  | [], [], _, _ => by simp [PyData.eqvAll, nk1]
  | [], _ :: _, _, _ => by simp [PyData.eqvAll, nk1]
  | _ :: _, [], _, _ => by simp [PyData.eqvAll, nk1]
  | d :: ds, e :: es, h, g => by
    rw [isK1, Bool.and_eq_true] at h g
    rw [PyData.eqvAll, eqv_nk h.1 g.1, eqv1_nk h.2 g.2, Bool.eq_iff_iff]
    simp [nk1]
end
theorem any_inK {ps : List PyData} {q : PyData} (h : ∀ p ∈ ps, isK p = true) (g : isK q = true) : (ps.any fun z => PyData.eqv z q) = inK ps q := by
  unfold inK
  rw [Bool.eq_iff_iff, List.any_eq_true, decide_eq_true_eq, List.mem_map]
  refine ⟨fun ⟨z, hz, e⟩ => ⟨z, hz, ?_⟩, fun ⟨z, hz, e⟩ => ⟨z, hz, ?_⟩⟩
  · rw [eqv_nk (h z hz) g] at e
    exact of_decide_eq_true e
  · rw [eqv_nk (h z hz) g]
    exact decide_eq_true e
/-! small polys -/
theorem isK1_of : ∀ {ds : List PyData}, (∀ d ∈ ds, isK d = true) → isK1 ds = true
  | [], _ => rfl
  | d :: ds, h => by rw [isK1, h d (by simp), isK1_of fun e m => h e (by simp [m])]; rfl
theorem whole_k {d : PyData} (h : wholeB d = true) : isK d = true ∧ dep d = 0 := by
  cases d <;> first | exact ⟨rfl, rfl⟩ | (simp [wholeB, isIntD, isBoolD] at h)
theorem row_k {d : PyData} (h : rowB d = true) : isK d = true ∧ dep d ≤ 1 := by
  cases d with
  | tuple ds =>
    unfold rowB at h
    rw [Bool.and_eq_true] at h
    refine ⟨by rw [isK]; exact isK1_of fun e m => (whole_k (all_mem h.1 m)).1, ?_⟩
    rw [dep]
    exact Nat.succ_le_succ (dep1_le fun e m => by rw [(whole_k (all_mem h.1 m)).2]; exact Nat.le_refl _)
  | _ => cases h
theorem poly_k {d : PyData} (h : polyB d = true) : isK d = true ∧ dep d ≤ 2 ∧ ∃ ds, d = .tuple ds ∧ ∀ e ∈ ds, rowB e = true := by
  cases d with
  | tuple ds =>
    unfold polyB at h
    rw [Bool.and_eq_true] at h
    refine ⟨by rw [isK]; exact isK1_of fun e m => (row_k (all_mem h.1 m)).1, ?_, ds, rfl, fun e m => all_mem h.1 m⟩
    rw [dep]
    exact Nat.succ_le_succ (dep1_le fun e m => (row_k (all_mem h.1 m)).2)
  | _ => cases h
theorem small_k {d : PyData} (h : smallB d = true) : isK d = true ∧ dep d ≤ 2 ∧ ∃ ds, d = .tuple ds ∧ (∀ e ∈ ds, rowB e = true) ∧ ds.length ≤ 5 ∧ widD d ≤ 5 := by
  unfold smallB at h
  rw [Bool.and_eq_true, Bool.and_eq_true] at h
  obtain ⟨h1, h2, ds, rfl, h3⟩ := poly_k h.1.1
  exact ⟨h1, h2, ds, rfl, h3, of_decide_eq_true h.1.2, of_decide_eq_true h.2⟩
/-! joined lists -/
theorem un_nil (A : List PyData) : un [] A = A := by
  unfold un
  rw [List.nil_append, List.filter_eq_self]
  intro a _
  rfl
theorem un_none (ps : List PyData) : un ps [] = ps := by unfold un; rw [List.filter_nil, List.append_nil]
theorem un_one (ps : List PyData) (p : PyData) : un ps [p] = put ps p := by
  unfold un put inK
  by_cases m : nk p ∈ ps.map nk
  · rw [if_pos m, List.filter_cons, decide_eq_true m]
    simp
  · rw [if_neg m, List.filter_cons, decide_eq_false m]
    simp
theorem inK_un (ps A : List PyData) (q : PyData) : inK (un ps A) q = (inK ps q || inK A q) := by
  unfold inK
  rw [Bool.eq_iff_iff, Bool.or_eq_true, decide_eq_true_eq, decide_eq_true_eq, decide_eq_true_eq]
  unfold un
  rw [List.map_append, List.mem_append]
  refine ⟨fun h => h.elim .inl fun h => ?_, fun h => ?_⟩
  · obtain ⟨a, ha, e⟩ := List.mem_map.mp h
    exact .inr (List.mem_map.mpr ⟨a, (List.mem_filter.mp ha).1, e⟩)
  · by_cases m : nk q ∈ ps.map nk
    · exact .inl m
    · rcases h with h | h
      · exact .inl h
      · obtain ⟨a, ha, e⟩ := List.mem_map.mp h
        refine .inr (List.mem_map.mpr ⟨a, List.mem_filter.mpr ⟨ha, ?_⟩, e⟩)
        unfold inK
        rw [e, decide_eq_false m]
        rfl
theorem un_assoc (ps A B : List PyData) : un (un ps A) B = un ps (un A B) := by
  have e : (B.filter fun q => !inK (un ps A) q) = (B.filter fun q => !inK A q).filter fun q => !inK ps q := by
    rw [List.filter_filter]
    refine List.filter_congr fun q _ => ?_
    rw [inK_un, Bool.not_or]
  show un ps A ++ _ = ps ++ (A ++ _).filter _
  rw [e, List.filter_append, ← List.append_assoc]
  rfl
theorem un_len (ps A : List PyData) : (un ps A).length ≤ ps.length + A.length := by
  unfold un
  rw [List.length_append]
  have := List.length_filter_le (fun q => !inK ps q) A
  omega
theorem un_mem {ps A : List PyData} {p : PyData} (h : p ∈ un ps A) : p ∈ ps ∨ p ∈ A := (List.mem_append.mp h).elim .inl fun h => .inr (List.mem_filter.mp h).1
theorem un_nodup {ps A : List PyData} (h : ps.Nodup) (g : A.Nodup) : (un ps A).Nodup := by
  unfold un
  rw [List.nodup_append]
  refine ⟨h, g.filter _, fun a ha b hb e => ?_⟩
  subst e
  have := (List.mem_filter.mp hb).2
  unfold inK at this
  rw [decide_eq_true (List.mem_map_of_mem ha)] at this
  cases this
theorem Say.polys_small : ∀ {s : Say}, s.ok → ∀ p ∈ s.polys, smallB p = true
  | .nn s, h, p, m => Say.polys_small (s := s) h p m
  | .bo _ s t, h, p, m => (un_mem m).elim (Say.polys_small (s := s) h.1 p) (Say.polys_small (s := t) h.2 p)
  | .qu _ _ s, h, p, m => Say.polys_small (s := s) h p m
  | .re _ q, h, p, m => by
    rw [List.mem_singleton.mp m]
    exact h.2
  | .tt, _, p, m => by cases m
  | .ff, _, p, m => by cases m
theorem Say.polys_nodup : ∀ s : Say, s.polys.Nodup
  | .nn s => Say.polys_nodup s
  | .bo _ s t => un_nodup (Say.polys_nodup s) (Say.polys_nodup t)
  | .qu _ _ s => Say.polys_nodup s
  | .re _ q => List.nodup_cons.mpr ⟨(fun z => nomatch z), List.nodup_nil⟩
  | .tt => List.nodup_nil
  | .ff => List.nodup_nil
theorem Say.polys_len : ∀ s : Say, s.polys.length ≤ 2 ^ s.depth
  | .nn s => by
    have := Say.polys_len s
    show s.polys.length ≤ 2 ^ (1 + s.depth)
    rw [Nat.add_comm, Nat.pow_succ]; omega
  | .bo _ s t => by
    have h1 := Say.polys_len s
    have h2 := Say.polys_len t
    have h3 := un_len s.polys t.polys
    have h4 : 2 ^ s.depth ≤ 2 ^ max s.depth t.depth := Nat.pow_le_pow_right (by decide) (Nat.le_max_left _ _)
    have h5 : 2 ^ t.depth ≤ 2 ^ max s.depth t.depth := Nat.pow_le_pow_right (by decide) (Nat.le_max_right _ _)
    show (un s.polys t.polys).length ≤ 2 ^ (1 + max s.depth t.depth)
    rw [Nat.add_comm, Nat.pow_succ]; omega
  | .qu _ _ s => by
    have := Say.polys_len s
    show s.polys.length ≤ 2 ^ (1 + s.depth)
    rw [Nat.add_comm, Nat.pow_succ]; omega
  | .re _ q => by show 1 ≤ 2; decide
  | .tt => by decide
  | .ff => by decide
/-! the words one by one -/
theorem say_str (w : Str) (rest : List PyData) : say (.tuple (.str w :: rest)) = bw w rest (says rest) := by
  rw [say, says]; rfl
theorem say_no {d : PyData} {rest : List PyData} (h : ∀ w, d ≠ .str w) : say (.tuple (d :: rest)) = none := by
  rw [say]
  cases d <;> first | rfl | exact absurd rfl (h _)
theorem say_tup {d : PyData} (h : isTupD d = false) : say d = none := by
  cases d <;> first | (cases h; done) | simp [say]
theorem bw_tt (r : List PyData) (o : List (Option Say)) : bw "true" r o = b0 .tt r := rfl
theorem bw_ff (r : List PyData) (o : List (Option Say)) : bw "false" r o = b0 .ff r := rfl
theorem bw_nn (r : List PyData) (o : List (Option Say)) : bw "not" r o = b1 .nn o := rfl
theorem bw_bo (r : List PyData) (o : List (Option Say)) : bw "both" r o = b2 (.bo true) o := rfl
theorem bw_ei (r : List PyData) (o : List (Option Say)) : bw "either" r o = b2 (.bo false) o := rfl
theorem bw_al (r : List PyData) (o : List (Option Say)) : bw "all" r o = bq true r o := rfl
theorem bw_so (r : List PyData) (o : List (Option Say)) : bw "some" r o = bq false r o := rfl
theorem bw_re {w : Str} (h : w ∈ rels) (r : List PyData) (o : List (Option Say)) : bw w r o = br w r := by
  have := words_apart w h
  simp only [words, List.mem_cons, List.not_mem_nil, or_false, not_or] at this
  obtain ⟨a, b, c, d, e, f, g⟩ := this
  unfold bw
  rw [if_neg a, if_neg b, if_neg c, if_neg d, if_neg e, if_neg f, if_neg g, if_pos h]
theorem bw_no {w : Str} (h : w ∉ words) (h2 : w ∉ rels) (r : List PyData) (o : List (Option Say)) : bw w r o = none := by
  have := h
  simp only [words, List.mem_cons, List.not_mem_nil, or_false, not_or] at this
  obtain ⟨a, b, c, d, e, f, g⟩ := this
  unfold bw
  rw [if_neg a, if_neg b, if_neg c, if_neg d, if_neg e, if_neg f, if_neg g, if_neg h2]
theorem word_cases (w : Str) : w = "true" ∨ w = "false" ∨ w = "not" ∨ w = "both" ∨ w = "either" ∨ w = "all" ∨ w = "some" ∨ (w ∉ words ∧ w ∈ rels) ∨ (w ∉ words ∧ w ∉ rels) := by
  by_cases h : w ∈ words
  · simp only [words, List.mem_cons, List.not_mem_nil, or_false] at h
    rcases h with h | h | h | h | h | h | h <;> simp [h]
  · by_cases g : w ∈ rels
    · exact .inr (.inr (.inr (.inr (.inr (.inr (.inr (.inl ⟨h, g⟩)))))))
    · exact .inr (.inr (.inr (.inr (.inr (.inr (.inr (.inr ⟨h, g⟩)))))))
/-! readings that come often -/
theorem inS (w : Str) : ∀ l : List Str, inV (.str w) (l.map V.str) = decide (w ∈ l)
  | [] => rfl
  | x :: l => by
    have ih := inS w l
    unfold inV at ih ⊢
    rw [List.map_cons, List.any_cons, ih, Bool.eq_iff_iff]
    simp only [Bool.or_eq_true, decide_eq_true_eq, List.mem_cons]
    have : eqV (.str x) (.str w) = true ↔ w = x := by
      show (x == w) = true ↔ w = x
      rw [beq_iff_eq]
      exact ⟨fun e => e.symm, fun e => e.symm⟩
    rw [this]
theorem cut1 (d : PyData) (ds : List PyData) : Tw.cutD (d :: ds) (some 1) none = ds := by
  unfold Tw.cutD
  have e : HT.sIx (d :: ds).length 0 (some 1) = 1 := by
    have := HT.sIx_nat (n := (d :: ds).length) (k := 1) (d := 0)
    rw [show ((1 : Nat) : Int) = 1 from rfl] at this
    rw [this]; simp
  rw [e, HT.sIx_none]
  simp
section
variable {K : PySem.W.Frag} {a : Addr} {H : Hp} {v : V} {ds : List PyData} {Q : VK}
theorem ix_at {n : Nat} {d : PyData} (h : Da a H v (.tuple ds)) (e : ds[n]? = some d) (q : ∀ x, Da a H x d → Q x H) : rIxT K v (.int (n : Int)) H Q := by
  obtain ⟨p, xs, rfl, np, hp, hx⟩ := da_tup h
  have hn : n < ds.length := (List.getElem?_eq_some_iff.mp e).1
  have hm : n < xs.length := by rw [hx.len]; exact hn
  obtain ⟨d', e1, e2⟩ := hx.get (List.getElem?_eq_getElem hm)
  rw [e] at e1
  cases e1
  exact ⟨p, xs, _, xs[n], rfl, rfl, SqT.of hp, atI_nat (List.getElem?_eq_getElem hm), q _ e2⟩
/-- a written tuple of texts -/
theorem words_new {l : List Str} {xs : List V} {R : Addr → Hp → Prop} (hx : xs = l.map V.str) (hl : l.length ≤ 1000) (q : ∀ p H', Same H H' → H p = none → H' p = some (.tup (l.map V.str)) → R p H') : xs.length ≤ sizeLine ∧ ∀ p, H p = none → R p (upd H p (.tup xs)) := by
  subst hx
  exact ⟨sz (by rw [List.length_map]; omega), fun p np => q p _ (same_new np) np upd_same⟩
theorem flat_all : ∀ l : List Str, (l.map V.str).all flatV = true
  | [] => rfl
  | x :: l => by rw [List.map_cons, List.all_cons, flat_all l]; rfl
/-- w in (.., ..) -/
theorem in_new {w : Str} {l : List Str} {xs : List V} {R : Bool → Hp → Prop} (hx : xs = l.map V.str) (hl : l.length ≤ 1000) (q : ∀ H', Same H H' → R (decide (w ∈ l)) H') :
    xs.length ≤ sizeLine ∧ ∀ p, H p = none → rIn K false (.str w) (.ref p) (upd H p (.tup xs)) fun x H' => ∃ k, x = .bl k ∧ R k H' := by
  subst hx
  exact ⟨sz (by rw [List.length_map]; omega), fun p np => ⟨p, l.map V.str, rfl, .inr (SqT.of upd_same), rfl, flat_all l, _, rfl, by rw [if_neg Bool.false_ne_true, inS]; exact q _ (same_new np)⟩⟩
theorem notIn_new {w : Str} {l : List Str} {xs : List V} {R : Bool → Hp → Prop} (hx : xs = l.map V.str) (hl : l.length ≤ 1000) (q : ∀ H', Same H H' → R (!decide (w ∈ l)) H') :
    xs.length ≤ sizeLine ∧ ∀ p, H p = none → rIn K true (.str w) (.ref p) (upd H p (.tup xs)) fun x H' => ∃ k, x = .bl k ∧ R k H' := by
  subst hx
  exact ⟨sz (by rw [List.length_map]; omega), fun p np => ⟨p, l.map V.str, rfl, .inr (SqT.of upd_same), rfl, flat_all l, _, rfl, by rw [if_pos rfl, inS]; exact q _ (same_new np)⟩⟩
end
end K43

set_option Elab.async false
set_option linter.all false
set_option maxRecDepth 100000
set_option maxHeartbeats 8000000
local macro_rules | `(tactic| walk_at "rd") => `(tactic| dsimp only [Evl.tCut, L2.tSeq, L2.tNext, L2.tRet, L2.tRetN, L2.tAsg, L2.gName, L2.tIfS, L2.tDrop, L2.tCons, L2.tNil, L2.tC, L2.tVar, L2.tCB, L2.tAndV, L2.tOrV, L2.tNotV, L2.tB, L2.tTest, L2.tOp, L2.tUn, L2.tNot, L2.tAnd, L2.tOr, L2.tIf, L2.tCall, L2.tTup, L2.tLst, L2.tNotT, L2.tYes, L2.gTup, L2.gCons, L2.gNil, L2.gSub, L2.tBM0, L2.tBM, L2.tWhile, L2.tFor, L2.iRng1, L2.iRng2, L2.tAugS, Tw.iEnumT, L2.tCKw, L2.tAug, L2.ipI, RT.iRevA, L2.tPar, L2.tPar3, L2.tSl, L2.tNoPart, L2.tPart, Tw.tRevT, Tw.tFput])
namespace K43
open PySem PySem.Spec PyProof.Rows L2 Tw
def rLn (K : PySem.W.Frag) : List V → Hp → VK → Prop := fun xs H Q => ∃ (p : Addr) (ys : List V), xs = [.ref p] ∧ (SqL K H p ys ∨ SqT K H p ys) ∧ Q (.int (ys.length : Int)) H
def isStrD : PyData → Bool
  | .str _ => true
  | _ => false
theorem isi_str {K : PySem.W.Frag} (d : PyData) : PySem.W.kitOne K (.type (kindOf d)) (.type "str") = some (isStrD d) := by
  cases d with
  | none => exact kit_ty (show kitB "NoneType" "str" = some false by decide +kernel)
  | bool _ => exact kit_ty (show kitB "bool" "str" = some false by decide +kernel)
  | int _ => exact kit_ty (show kitB "int" "str" = some false by decide +kernel)
  | str _ => exact kit_ty (show kitB "str" "str" = some true by decide +kernel)
  | list _ => exact kit_ty (show kitB "list" "str" = some false by decide +kernel)
  | tuple _ => exact kit_ty (show kitB "tuple" "str" = some false by decide +kernel)
  | dict _ => exact kit_ty (show kitB "dict" "str" = some false by decide +kernel)
theorem str_of {a : Addr} {H : Hp} {v : V} {d : PyData} (h : Da a H v d) (t : isStrD d = true) : ∃ w, v = .str w ∧ d = .str w := by
  cases h with
  | str x => exact ⟨x, rfl, rfl⟩
  | _ => cases t
/-- the text's own constants -/
structure Cs (K : PySem.W.Frag) (w : World) (mg : Str → Option Value) : Prop where
  ltr : ∃ p, mg "LETTERS" = some (.ref p) ∧ ∀ H : Hp, SqT K H p [.str "x", .str "y"]
  rel : ∃ (d : Addr) (es : Array DictEntry) (n : Nat), mg "RELATIONS" = some (.ref d) ∧ KDict K w d es n ∧ ∀ z, ∃ r, PySem.W.nsIn K d z = some r ∧ r.isSome = decide (z ∈ rels)
  dee : ∃ t, mg "DEEPEST" = some (.int 10 t)
  mun : ∃ t, mg "MOST_UNLIKE" = some (.int 8 t)
  mdg : ∃ t, mg "MOST_DEGREE" = some (.int 4 t)
def spWid : Sp := fun vs H Q _ => ∃ (a : Addr) (v : V) (ds : List PyData), vs = [v] ∧ Da a H v (.tuple ds) ∧ ds.length ≤ 1000 ∧ (∀ e ∈ ds, isTupD e = true) ∧ ∀ H', Same H H' → Q (.int ((widD (.tuple ds) : Nat) : Int)) H'
theorem wid_max (ds : List PyData) : maxN (ds.map fun r => ((lenD r : Nat) : Int)) = ((widD (.tuple ds) : Nat) : Int) := by
  have key : ∀ (l : List PyData) (a : Int), 0 ≤ a → (l.map fun r => ((lenD r : Nat) : Int)).foldl max a = max a ((l.foldr (fun r m => max (lenD r) m) 0 : Nat) : Int) := fun l => by
    induction l with
    | nil => intro a ha; simp; omega
    | cons r l ih =>
      intro a ha
      rw [List.map_cons, List.foldl_cons, ih _ (by omega), List.foldr_cons]
      omega
  unfold maxN
  rw [key ds 0 (Int.le_refl _)]
  show max 0 ((widD (.tuple ds) : Nat) : Int) = _
  omega
def fitB (k : Nat) (d : PyData) : Bool := match say d with
  | some s => decide (s.depth ≤ k)
  | none => false
def spFit (P : Program) (w : World) (k : Nat) : Sp := fun vs H Q _ => ∃ (D : Addr) (v : V) (d : PyData) (n : Nat) (ps : List PyData), vs = [v, .int (k : Int), .ref D] ∧ Da D H v d ∧ Sm n 1000 d ∧ Fd P w H D ps ∧ ps.length + 2 ^ k ≤ 100000 ∧
  ∀ H', Kp D H H' → (∀ s, say d = some s → s.depth ≤ k → Fd P w H' D (un ps s.polys)) → Q (.bl (fitB k d)) H'
section
variable {P : Program} {w : World} {K : PySem.W.Frag} {mg : Str → Option Value} {base : Heap}
theorem scWidth : FnScope ["poly", "row"] ["poly"] (defScope sWidth) := ⟨rfl, rfl, rfl, by decide +kernel, rfl, by decide +kernel, by decide +kernel⟩
theorem ok_width (D : Def K mg "width_in_x" sWidth ["poly"]) (nb : Nb mg) : Cal P w K mg base "width_in_x" 1 ["poly"] spWid := by
  refine D.ok scWidth (fun vs H Q E h => ?_) (fun f cdv A out s H vs Q E hr h => ?_)
  · obtain ⟨a, v, ds, rfl, _⟩ := h; rfl
  obtain ⟨a, v, ds, rfl, hd, hl, ht, q⟩ := h
  obtain ⟨p, xs, rfl, np, hp, hx⟩ := da_tup hd
  refine ⟨_, pss_one (ps_ret (pe_callBK (r := rMaxZ K) (id := "max") (cr_maxZ rfl hr.units) (by rfl) nb.max (by decide +kernel) (pa_cons
          (pe_lc (own := [("row", 1)]) (g := gName 1) (tt := tYes) rfl scWidth.nd (pi_tup (pv 0)) (blkOk_by (N := ["poly", "row"]) (sc := defScope sWidth) (by decide +kernel))
            (fun _ _ _ _ _ => pg_name (i := 1) scWidth.nd rfl (Or.inl rfl)) (fun _ _ _ _ _ => pts_nil) (fun _ _ _ _ _ => (pe_callB (id := "len") (r := rLn K) call_len_seq (by rfl) nb.len PySem.boot_len (pa_cons (pv 1) pa_nil)))) pa_nil) (pk_cons pe_int pk_nil))), ?_⟩
  walk_at "rd"
  refine lc_mapT (fun r => V.int ((lenD r : Nat) : Int)) rfl hp hx (by rw [hx.len]; omega) (wipe1 _ 1) (fun x d H1 hm s1 dx R k => ?_) fun L H1 s1 nL hL => ?_
  · obtain ⟨p2, ys, es, rfl, rfl, n2, h2, hy⟩ := tup_of dx (ht d hm)
    refine ⟨.ref p2, rfl, p2, ys, rfl, .inr (SqT.of h2), ?_⟩
    rw [hy.len]
    exact k H1 (Same.refl _)
  · refine ⟨L, ds.map fun r => ((lenD r : Nat) : Int), rfl, rfl, SqL.of (by rw [List.map_map]; exact hL), fun n hn => ?_, ?_⟩
    · obtain ⟨r, _, rfl⟩ := List.mem_map.mp hn
      omega
    · rw [wid_max]
      exact q H1 s1
theorem scSmall : FnScope ["value"] ["value"] (defScope sSmall) := ⟨rfl, rfl, rfl, by decide +kernel, rfl, by decide +kernel, by decide +kernel⟩
theorem ok_small (D : Def K mg "is_small_poly" sSmall ["value"]) (nb : Nb mg) (cs : Cs K w mg) (c1 : Cal P w K mg base "is_poly" 3 ["value"] (spB polyB)) (c2 : Cal P w K mg base "width_in_x" 1 ["poly"] spWid) : Cal P w K mg base "is_small_poly" 4 ["value"] (spB smallB) := by
  refine D.ok scSmall (fun vs H Q E h => ?_) (fun f cdv A out s H vs Q E hr h => ?_)
  · obtain ⟨a, v, d, m, rfl, _⟩ := h; rfl
  obtain ⟨a, v, d, m, rfl, hd, hs, q⟩ := h
  obtain ⟨t, ht⟩ := cs.mdg
  refine ⟨_, pss_one (ps_ret (pe_and (pe_cal c1 hr (by decide) (by rfl) (pa_cons (pv 0) pa_nil)) (pe_and (pe_cmpR op_le (pe_callB (id := "len") (r := rLn K) call_len_seq (by rfl) nb.len PySem.boot_len (pa_cons (pv 0) pa_nil)) (pe_op op_add (pe_glob (v := .int 4) (by rfl) ht ⟨t, rfl⟩) pe_int) (nomark _))
    (pe_one (pe_cmpR op_le (pe_cal c2 hr (by decide) (by rfl) (pa_cons (pv 0) pa_nil)) (pe_op op_add (pe_glob (v := .int 4) (by rfl) ht ⟨t, rfl⟩) pe_int) (nomark _)))))), ?_⟩
  walk_at "rd"
  refine ⟨v, rfl, a, v, d, m, rfl, hd, hs, fun H1 s1 => ⟨_, rfl, ?_⟩⟩
  have q1 : ∀ H', Same H H' → Q (.bl (polyB d && decide (lenD d ≤ 5) && decide (widD d ≤ 5))) H' := q
  cases hp : polyB d with
  | false => rw [hp] at q1; exact iteF (q1 H1 s1)
  | true =>
    rw [hp] at q1
    obtain ⟨_, _, ds, rfl, hr2⟩ := poly_k hp
    have hd1 := hd.same s1
    obtain ⟨p, xs, rfl, np, hpp, hx⟩ := da_tup hd1
    refine iteT ⟨.ref p, rfl, p, xs, rfl, .inr (SqT.of hpp), 4, 1, rfl, rfl, (xs.length : Int), 4 + 1, rfl, rfl, _, rfl, ?_⟩
    rw [hx.len]
    refine ite2 (fun c => ?_) (fun c => ?_)
    · have c := of_decide_eq_true c
      have e5 : decide (lenD (.tuple ds) ≤ 5) = true := decide_eq_true (by show ds.length ≤ 5; omega)
      rw [e5] at q1
      refine ⟨.ref p, rfl, a, .ref p, ds, rfl, hd1, by omega, fun e he => row_tup (hr2 e he), fun H2 s2 => ⟨4, 1, rfl, rfl, ((widD (.tuple ds) : Nat) : Int), 4 + 1, rfl, rfl, ?_⟩⟩
      have := q1 H2 (s1.trans s2)
      have e6 : decide (((widD (.tuple ds) : Nat) : Int) ≤ 4 + 1) = decide (widD (.tuple ds) ≤ 5) := decide_eq_decide.mpr (by omega)
      show Q (.bl (decide (((widD (.tuple ds) : Nat) : Int) ≤ 4 + 1))) H2
      rw [e6]
      exact this
    · have e5 : decide (lenD (.tuple ds) ≤ 5) = false := decide_eq_false (fun z => c (decide_eq_true (by have : ds.length ≤ 5 := z; omega)))
      rw [e5] at q1
      have := q1 H1 s1
      exact this
theorem scIsLetter : FnScope ["value"] ["value"] (defScope sIsLetter) := ⟨rfl, rfl, rfl, by decide +kernel, rfl, by decide +kernel, by decide +kernel⟩
def letB (d : PyData) : Bool := (letOf d).isSome
theorem letB_str (w : Str) : letB (.str w) = decide (w ∈ (["x", "y"] : List Str)) := by
  unfold letB letOf
  by_cases h : w = "x"
  · subst h; rfl
  · by_cases g : w = "y"
    · subst g; rfl
    · show (if w = "x" then some true else if w = "y" then some false else none : Option Bool).isSome = _
      rw [if_neg h, if_neg g]; simp [h, g]
theorem ok_isLetter (D : Def K mg "is_letter" sIsLetter ["value"]) (nb : Nb mg) (cs : Cs K w mg) : Cal P w K mg base "is_letter" 1 ["value"] (spB letB) := by
  refine D.ok scIsLetter (fun vs H Q E h => ?_) (fun f cdv A out s H vs Q E hr h => ?_)
  · obtain ⟨a, v, d, m, rfl, _⟩ := h; rfl
  obtain ⟨a, v, d, m, rfl, hd, hs, q⟩ := h
  obtain ⟨lp, hlp, hls⟩ := cs.ltr
  refine ⟨_, pss_one (ps_ret (pe_and (pe_callB (id := "isinstance") (r := rIsi K) call_isi (by rfl) nb.isi (by decide +kernel) (pa_cons (pv 0) (pa_cons (pe_bltn (v := .ty "str") (by rfl) nb.str (by decide +kernel) rfl) pa_nil))) (pe_one (pe_cmpR op_in_seq (pv 0) (pe_glob (v := .ref lp) (by rfl) hlp rfl) (by rfl))))), ?_⟩
  walk_at "rd"
  refine ⟨v, rfl, isi hd (isi_str d) ⟨isStrD d, rfl, ?_⟩⟩
  cases ht : isStrD d with
  | false =>
    have e : letB d = false := by cases d <;> first | rfl | cases ht
    have := q H (Same.refl _)
    rw [e] at this
    exact iteF this
  | true =>
    obtain ⟨x, rfl, rfl⟩ := str_of hd ht
    refine iteT ⟨.str x, rfl, lp, [.str "x", .str "y"], rfl, .inr (hls H), rfl, rfl, ?_⟩
    have e : inV (.str x) [.str "x", .str "y"] = letB (.str x) := by
      rw [letB_str]
      exact inS x ["x", "y"]
    rw [if_neg Bool.false_ne_true, e]
    exact q H (Same.refl _)
end
end K43

set_option Elab.async false
set_option linter.all false
set_option maxRecDepth 100000
set_option maxHeartbeats 8000000
local macro_rules | `(tactic| walk_at "rd") => `(tactic| dsimp only [Evl.tCut, L2.tSeq, L2.tNext, L2.tRet, L2.tRetN, L2.tAsg, L2.gName, L2.tIfS, L2.tDrop, L2.tCons, L2.tNil, L2.tC, L2.tVar, L2.tCB, L2.tAndV, L2.tOrV, L2.tNotV, L2.tB, L2.tTest, L2.tOp, L2.tUn, L2.tNot, L2.tAnd, L2.tOr, L2.tIf, L2.tCall, L2.tTup, L2.tLst, L2.tNotT, L2.tYes, L2.gTup, L2.gCons, L2.gNil, L2.gSub, L2.tBM0, L2.tBM, L2.tWhile, L2.tFor, L2.iRng1, L2.iRng2, L2.tAugS, Tw.iEnumT, L2.tCKw, L2.tAug, L2.ipI, RT.iRevA, L2.tPar, L2.tPar3, L2.tSl, L2.tNoPart, L2.tPart, Tw.tRevT, Tw.tFput])
namespace K43
open PySem PySem.Spec PyProof.Rows L2 Tw
theorem fit_none {k : Nat} {d : PyData} (h : say d = none) : fitB k d = false := by unfold fitB; rw [h]
theorem fit_some {k : Nat} {d : PyData} {s : Say} (h : say d = some s) : fitB k d = decide (s.depth ≤ k) := by unfold fitB; rw [h]
theorem fd_put {P : Program} {w : World} {H : Hp} {D : Addr} {ps : List PyData} {p : PyData} (h : Fd P w H D (put ps p)) : Fd P w H D (un ps [p]) := by rw [un_one]; exact h
theorem says1 (d : PyData) : says [d] = [say d] := by rw [says, says]
theorem says2 (d e : PyData) : says [d, e] = [say d, say e] := by rw [says, says, says]
theorem letOf_b {d : PyData} : (∃ x, letOf d = some x) ↔ letB d = true := by
  unfold letB
  cases letOf d <;> simp
theorem veq {i j : Int} (c : decide (V.int i = V.int j) = true) : i = j := by rw [dec_int] at c; simpa using c
theorem vne {i j : Int} (c : ¬ decide (V.int i = V.int j) = true) : i ≠ j := by rw [dec_int] at c; simpa using c
theorem b1_len {f : Say → Say} {rs : List (Option Say)} (h : rs.length ≠ 1) : b1 f rs = none := by
  unfold b1
  split
  · exact absurd rfl h
  · rfl
theorem b2_len {f : Say → Say → Say} {rs : List (Option Say)} (h : rs.length ≠ 2) : b2 f rs = none := by
  unfold b2
  split
  · exact absurd rfl h
  · rfl
theorem bq_len {al : Bool} {rest : List PyData} {rs : List (Option Say)} (h : rest.length ≠ 2) : bq al rest rs = none := by
  unfold bq
  split
  · exact absurd rfl h
  · rfl
theorem br_len {w : Str} {rest : List PyData} (h : rest.length ≠ 1) : br w rest = none := by
  unfold br
  split
  · exact absurd rfl h
  · rfl
theorem depth_nn (s : Say) : (Say.nn s).depth = 1 + s.depth := rfl
theorem depth_bo (b : Bool) (s t : Say) : (Say.bo b s t).depth = 1 + max s.depth t.depth := rfl
theorem depth_qu (b x : Bool) (s : Say) : (Say.qu b x s).depth = 1 + s.depth := rfl
section
variable {P : Program} {w : World} {K : PySem.W.Frag} {mg : Str → Option Value} {base : Heap}
theorem scFit : FnScope ["value", "deep", "found", "word", "rest"] ["value", "deep", "found"] (defScope sFit) := ⟨rfl, rfl, rfl, by decide +kernel, rfl, by decide +kernel, by decide +kernel⟩
theorem fit_many (k : Nat) : ∀ vs H Q E, spFit P w k vs H Q E → vs.length = (["value", "deep", "found"] : List Str).length := fun vs H Q E h => by
  obtain ⟨D, v, d, n, ps, rfl, _⟩ := h; rfl
theorem fit_step {k : Nat} (D : Def K mg "does_fit" sFit ["value", "deep", "found"]) (nb : Nb mg) (cs : Cs K w mg) (cL : Cal P w K mg base "is_letter" 1 ["value"] (spB letB)) (cS : Cal P w K mg base "is_small_poly" 4 ["value"] (spB smallB))
    (c : Cal P w K mg base "does_fit" (k + 5) ["value", "deep", "found"] (spFit P w k)) : Cal P w K mg base "does_fit" (k + 6) ["value", "deep", "found"] (spFit P w (k + 1)) := by
  obtain ⟨rd, res, rn, hrd, hrk, hrz⟩ := cs.rel
  refine D.ok scFit (fit_many (k + 1)) (fun f cdv A out s H vs Q E hr h => ?_)
  obtain ⟨D, v, d, n, ps, rfl, hd, hs, hf, hlen, q⟩ := h
  have hu := hr.un
  have hu20 : (A.deeper (envOfC "does_fit" (defScope sFit) s.heap.objs.size f cdv)).units + 20 < cLine := by omega
  refine ⟨_, pss_cons (ps_if (PW.pt (pw_or (pt_cmpR op_eq (pv 1) pe_int (nomark _)) (pw_or (pt_not (pt_val (pe_callB (id := "isinstance") (r := rIsi K) call_isi (by rfl) nb.isi (by decide +kernel) (pa_cons (pv 0) (pa_cons (pe_bltn (v := .ty "tuple") (by rfl) nb.tup (by decide +kernel) rfl) pa_nil))))) (pw_or (pt_not (pt_truth (pv 0) (fun _ => rfl))) (pw_or1 (pt_not (pt_val (pe_callB (id := "isinstance") (r := rIsi K) call_isi (by rfl) nb.isi (by decide +kernel) (pa_cons (pe_ix (r := rIxT K) ix_tup (pv 0) pe_int (fun _ _ => rfl)) (pa_cons (pe_bltn (v := .ty "str") (by rfl) nb.str (by decide +kernel) rfl) pa_nil)))))))))) (pss_one (ps_ret pe_bl)) pss_nil)
    (pss_cons (ps_par (i := 3) (j := 4) rfl scFit.nd rfl rfl (by decide) rfl rfl (pa_cons (pe_ix (r := rIxT K) ix_tup (pv 0) pe_int (fun _ _ => rfl)) (pa_cons (pe_slice sl_tupA (pv 0) (po_some pe_int) po_none) pa_nil)) rfl)
    (pss_cons (ps_if (pt_cmpR op_in_seq (pv 3) (pe_tup (pa_cons pe_str (pa_cons pe_str pa_nil))) (by rfl)) (pss_one (ps_ret (pe_cmpR (op_eqT0 hr.units) (pv 4) (pe_tup pa_nil) (nomark _)))) pss_nil)
    (pss_cons (ps_if (pt_cmpR op_eq (pv 3) pe_str (nomark _)) (pss_one (ps_ret (pe_and (pe_cmpR op_eq (pe_callB (id := "len") (r := rLn K) call_len_seq (by rfl) nb.len PySem.boot_len (pa_cons (pv 4) pa_nil)) pe_int (nomark _)) (pe_one (pe_cal c hr (by omega) (by rfl) (pa_cons (pe_ix (r := rIxT K) ix_tup (pv 4) pe_int (fun _ _ => rfl)) (pa_cons (pe_op op_sub (pv 1) pe_int) (pa_cons (pv 2) pa_nil)))))))) pss_nil)
    (pss_cons (ps_if (pt_cmpR op_in_seq (pv 3) (pe_tup (pa_cons pe_str (pa_cons pe_str pa_nil))) (by rfl)) (pss_one (ps_ret (pe_and (pe_cmpR op_eq (pe_callB (id := "len") (r := rLn K) call_len_seq (by rfl) nb.len PySem.boot_len (pa_cons (pv 4) pa_nil)) pe_int (nomark _)) (pe_and (pe_cal c hr (by omega) (by rfl) (pa_cons (pe_ix (r := rIxT K) ix_tup (pv 4) pe_int (fun _ _ => rfl)) (pa_cons (pe_op op_sub (pv 1) pe_int) (pa_cons (pv 2) pa_nil)))) (pe_one (pe_cal c hr (by omega) (by rfl) (pa_cons (pe_ix (r := rIxT K) ix_tup (pv 4) pe_int (fun _ _ => rfl)) (pa_cons (pe_op op_sub (pv 1) pe_int) (pa_cons (pv 2) pa_nil))))))))) pss_nil)
    (pss_cons (ps_if (pt_cmpR op_in_seq (pv 3) (pe_tup (pa_cons pe_str (pa_cons pe_str pa_nil))) (by rfl)) (pss_one (ps_ret (pe_and (pe_cmpR op_eq (pe_callB (id := "len") (r := rLn K) call_len_seq (by rfl) nb.len PySem.boot_len (pa_cons (pv 4) pa_nil)) pe_int (nomark _)) (pe_and (pe_cal cL hr (by omega) (by rfl) (pa_cons (pe_ix (r := rIxT K) ix_tup (pv 4) pe_int (fun _ _ => rfl)) pa_nil)) (pe_one (pe_cal c hr (by omega) (by rfl) (pa_cons (pe_ix (r := rIxT K) ix_tup (pv 4) pe_int (fun _ _ => rfl)) (pa_cons (pe_op op_sub (pv 1) pe_int) (pa_cons (pv 2) pa_nil))))))))) pss_nil)
    (pss_cons (ps_if (PW.pt (pw_or (pt_cmpR (op_notIn_kd hrk) (pv 3) (pe_glob (v := .ref rd) (by rfl) hrd rfl) (by rfl)) (pw_or (pt_cmpR op_ne (pe_callB (id := "len") (r := rLn K) call_len_seq (by rfl) nb.len PySem.boot_len (pa_cons (pv 4) pa_nil)) pe_int (nomark _)) (pw_or1 (pt_not (pt_val (pe_cal cS hr (by omega) (by rfl) (pa_cons (pe_ix (r := rIxT K) ix_tup (pv 4) pe_int (fun _ _ => rfl)) pa_nil)))))))) (pss_one (ps_ret pe_bl)) pss_nil)
    (pss_cons (ps_fput hu20 (pv 2) (pe_ix (r := rIxT K) ix_tup (pv 4) pe_int (fun _ _ => rfl)) pe_bl)
    (pss_one (ps_ret pe_bl))))))))), ?_⟩
  walk_at "rd"
  have qn : say d = none → ∀ H', Kp D H H' → Q (.bl false) H' := fun e H' k' => by
    have := q H' k' (fun s z => by rw [e] at z; cases z)
    rw [fit_none e] at this
    exact this
  refine ⟨.int ((k + 1 : Nat) : Int), rfl, rfl, _, rfl, ite2 (fun z => absurd (of_decide_eq_true z) (by intro e; injection e with e; omega)) (fun _ => ?_)⟩
  refine ⟨v, rfl, isi hd (isi_tup d) ⟨isTupD d, rfl, ?_⟩⟩
  cases ht : isTupD d with
  | false => exact iteT (iteT (qn (say_tup ht) H (Kp.refl _ _)))
  | true =>
    obtain ⟨p, xs, ds, rfl, rfl, np, hp, hx⟩ := tup_of hd ht
    refine iteF ⟨.ref p, rfl, _, .inr (.inl ⟨xs, SqT.of hp, rfl⟩), ?_⟩
    rw [empty_iff hx, Bool.not_not]
    cases ds with
    | nil => exact iteT (iteT (qn rfl H (Kp.refl _ _)))
    | cons d0 rest =>
      refine iteF ⟨.ref p, rfl, ix_at (n := 0) hd rfl fun x0 hx0 => isi hx0 (isi_str d0) ⟨isStrD d0, rfl, ?_⟩⟩
      cases hst : isStrD d0 with
      | false => exact iteT (qn (say_no fun w e => by rw [e] at hst; cases hst) H (Kp.refl _ _))
      | true =>
        obtain ⟨wd, rfl, rfl⟩ := str_of hx0 hst
        refine iteF ⟨.ref p, rfl, ix_at (n := 0) hd rfl fun y0 hy0 => ?_⟩
        obtain rfl : y0 = .str wd := by cases hy0; rfl
        refine ⟨.ref p, rfl, 1, rfl, sl_da hf.some hd fun v1 H1 s1 hd1 => ⟨_, _, rfl, ?_⟩⟩
        rw [cut1] at hd1
        have ek : ((k + 1 : Nat) : Int) - 1 = (k : Int) := by omega
        have p2 : 2 ^ (k + 1) = 2 ^ k + 2 ^ k := by rw [Nat.pow_succ]; omega
        have p0 : 0 < 2 ^ k := Nat.pow_pos (by decide)
        have smr : ∀ e ∈ rest, Sm n 1000 e := fun e m => (hs.mem (List.mem_cons_of_mem _ m)).up (by omega) (Nat.le_refl _)
        have hsay := say_str wd rest
        obtain ⟨p1, xs1, rfl, np1, hp1, hx1⟩ := da_tup hd1
        have hl1 := hx1.len
        -- what the words alone tell
        have leaf : ∀ (s0 : Say), s0.depth = 1 → s0.polys = [] → say (.tuple (.str wd :: rest)) = b0 s0 rest → ∀ H2, Same H1 H2 → fitB (k + 1) (.tuple (.str wd :: rest)) = rest.isEmpty ∧ ∀ s, say (.tuple (.str wd :: rest)) = some s → s.depth ≤ k + 1 → Fd P w H2 D (un ps s.polys) := fun s0 h1 h2 e H2 s2 => by
          unfold b0 at e
          cases hre : rest.isEmpty with
          | true =>
            rw [hre, if_pos rfl] at e
            refine ⟨by rw [fit_some e, h1]; exact decide_eq_true (by omega), fun s z _ => ?_⟩
            rw [e] at z
            cases z
            rw [h2, un_none]
            exact hf.same (s1.trans s2)
          | false =>
            rw [hre, if_neg Bool.false_ne_true] at e
            exact ⟨fit_none e, fun s z _ => by rw [e] at z; cases z⟩
        have empt : ∀ H2, Same H1 H2 → (∀ H3, Same H2 H3 → Q (.bl rest.isEmpty) H3) → ([] : List V).length ≤ sizeLine ∧ ∀ t, H2 t = none → rT0 false K (.ref p1) (.ref t) (upd H2 t (.tup [])) Q := fun H2 s2 g => ⟨sz (by decide), fun t nt => by
          have s3 := same_new (o := .tup []) nt
          refine ⟨p1, t, xs1, [], rfl, rfl, SqT.of (s3 _ _ (s2 _ _ hp1)), SqT.of upd_same, rfl, ?_⟩
          rw [if_neg Bool.false_ne_true, empty_iff hx1]
          exact g _ s3⟩
        have q := fun H' (k' : Kp D H1 H') => q H' ((Kp.of s1).trans k')
        have hf := hf.same s1
        have call : ∀ (i : Nat) (d1 : PyData) (ps1 : List PyData) (H2 : Hp), Kp D H1 H2 → rest[i]? = some d1 → Fd P w H2 D ps1 → ps1.length + 2 ^ k ≤ 100000 → ∀ R : VK, (∀ H3, Kp D H1 H3 → (∀ s, say d1 = some s → s.depth ≤ k → Fd P w H3 D (un ps1 s.polys)) → R (.bl (fitB k d1)) H3) →
            rIxT K (.ref p1) (.int (i : Int)) H2 fun x H3 => ∃ y, some (some (V.int ((k + 1 : Nat) : Int))) = some (some y) ∧ ∃ a b, y = .int a ∧ V.int 1 = .int b ∧ ∃ z, some (some (V.ref D)) = some (some z) ∧ spFit P w k [x, .int (a - b), z] H3 R E0 := fun i d1 ps1 H2 k2 hi f2 l2 R g =>
          ix_at (n := i) (hd1.kp k2) hi fun x hx => ⟨_, rfl, _, _, rfl, rfl, .ref D, rfl, D, x, d1, n, ps1, by rw [ek], hx, smr d1 (List.mem_of_getElem? hi), f2, l2, fun H3 k3 f3 => g H3 (k2.trans k3) f3⟩
        have lenis : ∀ (H2 : Hp) (m : Int) (R : Prop × Prop) , Kp D H1 H2 → SqT K H2 p1 xs1 := fun H2 m R k2 => SqT.of (k2 _ _ np1 hp1)
        rcases word_cases wd with rfl | rfl | rfl | rfl | rfl | rfl | rfl | ⟨hw, hr2⟩ | ⟨hw, hr2⟩
        · refine ⟨.str _, rfl, in_new (l := ["true", "false"]) rfl (by decide) fun H2 s2 => iteT ?_⟩
          refine ⟨.ref p1, rfl, empt H2 s2 fun H3 s3 => ?_⟩
          obtain ⟨e1, e2⟩ := leaf .tt rfl rfl hsay H3 (s2.trans s3)
          rw [← e1]
          exact q H3 (Kp.of (s2.trans s3)) e2
        · refine ⟨.str _, rfl, in_new (l := ["true", "false"]) rfl (by decide) fun H2 s2 => iteT ?_⟩
          refine ⟨.ref p1, rfl, empt H2 s2 fun H3 s3 => ?_⟩
          obtain ⟨e1, e2⟩ := leaf .ff rfl rfl hsay H3 (s2.trans s3)
          rw [← e1]
          exact q H3 (Kp.of (s2.trans s3)) e2
        · refine ⟨.str _, rfl, in_new (l := ["true", "false"]) rfl (by decide) fun H2 s2 => iteF ?_⟩
          refine ⟨.str _, rfl, rfl, _, rfl, iteT ?_⟩
          refine ⟨.ref p1, rfl, p1, xs1, rfl, .inr (SqT.of (Kp.of s2 _ _ np1 hp1)), rfl, _, rfl, ?_⟩
          rw [hl1]
          refine ite2 (fun z => ?_) (fun z => ?_)
          · have z := veq z
            obtain ⟨d1, rfl⟩ : ∃ d1, rest = [d1] := List.length_eq_one_iff.mp (by omega)
            refine ⟨.ref p1, rfl, call 0 d1 ps H2 (Kp.of s2) rfl (hf.same s2) (by omega) _ fun H3 k3 f3 => ?_⟩
            have e : say (.tuple [.str "not", d1]) = (say d1).map .nn := by rw [hsay, bw_nn, says1]; rfl
            cases h1 : say d1 with
            | none =>
              rw [h1] at e
              rw [fit_none h1, ← fit_none (k := k + 1) e]
              exact q H3 k3 fun s z => by rw [e] at z; cases z
            | some t =>
              rw [h1] at e
              have : fitB k d1 = fitB (k + 1) (.tuple [.str "not", d1]) := by
                rw [fit_some h1, fit_some e]
                exact decide_eq_decide.mpr (by show t.depth ≤ k ↔ 1 + t.depth ≤ k + 1; omega)
              rw [this]
              refine q H3 k3 fun s z hz => ?_
              rw [e] at z
              cases z
              exact f3 t h1 (by have : 1 + t.depth ≤ k + 1 := hz; omega)
          · have z := vne z
            have e : say (.tuple (.str "not" :: rest)) = none := by rw [hsay, bw_nn]; exact b1_len (by rw [says_len]; omega)
            rw [← fit_none (k := k + 1) e]
            exact q H2 (Kp.of s2) fun s z => by rw [e] at z; cases z
        · refine ⟨.str _, rfl, in_new (l := ["true", "false"]) rfl (by decide) fun H2 s2 => iteF ?_⟩
          refine ⟨.str _, rfl, rfl, _, rfl, iteF ?_⟩
          refine ⟨.str _, rfl, in_new (l := ["both", "either"]) rfl (by decide) fun H3 s3 => iteT ?_⟩
          have s23 := s2.trans s3
          refine ⟨.ref p1, rfl, p1, xs1, rfl, .inr (SqT.of (Kp.of s23 _ _ np1 hp1)), rfl, _, rfl, ?_⟩
          rw [hl1]
          refine ite2 (fun z => ?_) (fun z => ?_)
          · have z := veq z
            obtain ⟨d1, d2, rfl⟩ : ∃ d1 d2, rest = [d1, d2] := by
              match rest, (by omega : rest.length = 2) with
              | [a, b], _ => exact ⟨a, b, rfl⟩
            have e : say (.tuple [.str "both", d1, d2]) = b2 (.bo true) [say d1, say d2] := by rw [hsay, bw_bo, says2]
            refine ⟨.ref p1, rfl, call 0 d1 ps H3 (Kp.of s23) rfl (hf.same s23) (by omega) _ fun H4 k4 f4 => ⟨_, rfl, ?_⟩⟩
            cases hb : fitB k d1 with
            | false =>
              refine iteF ?_
              have : fitB (k + 1) (.tuple [.str "both", d1, d2]) = false ∧ ∀ s, say (.tuple [.str "both", d1, d2]) = some s → ¬ s.depth ≤ k + 1 := by
                cases h1 : say d1 with
                | none =>
                  rw [h1] at e
                  have e : say (.tuple [.str "both", d1, d2]) = none := e
                  exact ⟨fit_none e, fun s z => by rw [e] at z; cases z⟩
                | some t =>
                  rw [fit_some h1] at hb
                  have hb := of_decide_eq_false hb
                  cases h2 : say d2 with
                  | none =>
                    rw [h1, h2] at e
                    have e : say (.tuple [.str "both", d1, d2]) = none := e
                    exact ⟨fit_none e, fun s z => by rw [e] at z; cases z⟩
                  | some u =>
                    rw [h1, h2] at e
                    have e : say (.tuple [.str "both", d1, d2]) = some (.bo true t u) := e
                    have hd : ¬ (Say.bo true t u).depth ≤ k + 1 := by rw [depth_bo]; omega
                    exact ⟨by rw [fit_some e]; exact decide_eq_false hd, fun s z => by rw [e] at z; cases z; exact hd⟩
              rw [← this.1]
              exact q H4 k4 fun s z hz => absurd hz (this.2 s z)
            | true =>
              obtain ⟨t, h1, ht1⟩ : ∃ t, say d1 = some t ∧ t.depth ≤ k := by
                unfold fitB at hb
                split at hb
                · exact ⟨_, by assumption, of_decide_eq_true hb⟩
                · cases hb
              have f4 := f4 t h1 ht1
              have pl := Say.polys_len t
              have pp : 2 ^ t.depth ≤ 2 ^ k := Nat.pow_le_pow_right (by decide) ht1
              have ul := un_len ps t.polys
              refine iteT ⟨.ref p1, rfl, call 1 d2 (un ps t.polys) H4 k4 rfl f4 (by omega) _ fun H5 k5 f5 => ?_⟩
              rw [h1] at e
              cases h2 : say d2 with
              | none =>
                rw [h2] at e
                have e : say (.tuple [.str "both", d1, d2]) = none := e
                rw [fit_none h2, ← fit_none (k := k + 1) e]
                exact q H5 k5 fun s z => by rw [e] at z; cases z
              | some u =>
                rw [h2] at e
                have e : say (.tuple [.str "both", d1, d2]) = some (.bo true t u) := e
                have : fitB k d2 = fitB (k + 1) (.tuple [.str "both", d1, d2]) := by
                  rw [fit_some h2, fit_some e]
                  exact decide_eq_decide.mpr (by rw [depth_bo]; omega)
                rw [this]
                refine q H5 k5 fun s z hz => ?_
                rw [e] at z
                cases z
                rw [depth_bo] at hz
                have := f5 u h2 (by omega)
                rw [un_assoc] at this
                exact this
          · have z := vne z
            have e : say (.tuple (.str "both" :: rest)) = none := by rw [hsay, bw_bo]; exact b2_len (by rw [says_len]; omega)
            rw [← fit_none (k := k + 1) e]
            exact q H3 (Kp.of s23) fun s z => by rw [e] at z; cases z
        · refine ⟨.str _, rfl, in_new (l := ["true", "false"]) rfl (by decide) fun H2 s2 => iteF ?_⟩
          refine ⟨.str _, rfl, rfl, _, rfl, iteF ?_⟩
          refine ⟨.str _, rfl, in_new (l := ["both", "either"]) rfl (by decide) fun H3 s3 => iteT ?_⟩
          have s23 := s2.trans s3
          refine ⟨.ref p1, rfl, p1, xs1, rfl, .inr (SqT.of (Kp.of s23 _ _ np1 hp1)), rfl, _, rfl, ?_⟩
          rw [hl1]
          refine ite2 (fun z => ?_) (fun z => ?_)
          · have z := veq z
            obtain ⟨d1, d2, rfl⟩ : ∃ d1 d2, rest = [d1, d2] := by
              match rest, (by omega : rest.length = 2) with
              | [a, b], _ => exact ⟨a, b, rfl⟩
            have e : say (.tuple [.str "either", d1, d2]) = b2 (.bo false) [say d1, say d2] := by rw [hsay, bw_ei, says2]
            refine ⟨.ref p1, rfl, call 0 d1 ps H3 (Kp.of s23) rfl (hf.same s23) (by omega) _ fun H4 k4 f4 => ⟨_, rfl, ?_⟩⟩
            cases hb : fitB k d1 with
            | false =>
              refine iteF ?_
              have : fitB (k + 1) (.tuple [.str "either", d1, d2]) = false ∧ ∀ s, say (.tuple [.str "either", d1, d2]) = some s → ¬ s.depth ≤ k + 1 := by
                cases h1 : say d1 with
                | none =>
                  rw [h1] at e
                  have e : say (.tuple [.str "either", d1, d2]) = none := e
                  exact ⟨fit_none e, fun s z => by rw [e] at z; cases z⟩
                | some t =>
                  rw [fit_some h1] at hb
                  have hb := of_decide_eq_false hb
                  cases h2 : say d2 with
                  | none =>
                    rw [h1, h2] at e
                    have e : say (.tuple [.str "either", d1, d2]) = none := e
                    exact ⟨fit_none e, fun s z => by rw [e] at z; cases z⟩
                  | some u =>
                    rw [h1, h2] at e
                    have e : say (.tuple [.str "either", d1, d2]) = some (.bo false t u) := e
                    have hd : ¬ (Say.bo false t u).depth ≤ k + 1 := by rw [depth_bo]; omega
                    exact ⟨by rw [fit_some e]; exact decide_eq_false hd, fun s z => by rw [e] at z; cases z; exact hd⟩
              rw [← this.1]
              exact q H4 k4 fun s z hz => absurd hz (this.2 s z)
            | true =>
              obtain ⟨t, h1, ht1⟩ : ∃ t, say d1 = some t ∧ t.depth ≤ k := by
                unfold fitB at hb
                split at hb
                · exact ⟨_, by assumption, of_decide_eq_true hb⟩
                · cases hb
              have f4 := f4 t h1 ht1
              have pl := Say.polys_len t
              have pp : 2 ^ t.depth ≤ 2 ^ k := Nat.pow_le_pow_right (by decide) ht1
              have ul := un_len ps t.polys
              refine iteT ⟨.ref p1, rfl, call 1 d2 (un ps t.polys) H4 k4 rfl f4 (by omega) _ fun H5 k5 f5 => ?_⟩
              rw [h1] at e
              cases h2 : say d2 with
              | none =>
                rw [h2] at e
                have e : say (.tuple [.str "either", d1, d2]) = none := e
                rw [fit_none h2, ← fit_none (k := k + 1) e]
                exact q H5 k5 fun s z => by rw [e] at z; cases z
              | some u =>
                rw [h2] at e
                have e : say (.tuple [.str "either", d1, d2]) = some (.bo false t u) := e
                have : fitB k d2 = fitB (k + 1) (.tuple [.str "either", d1, d2]) := by
                  rw [fit_some h2, fit_some e]
                  exact decide_eq_decide.mpr (by rw [depth_bo]; omega)
                rw [this]
                refine q H5 k5 fun s z hz => ?_
                rw [e] at z
                cases z
                rw [depth_bo] at hz
                have := f5 u h2 (by omega)
                rw [un_assoc] at this
                exact this
          · have z := vne z
            have e : say (.tuple (.str "either" :: rest)) = none := by rw [hsay, bw_ei]; exact b2_len (by rw [says_len]; omega)
            rw [← fit_none (k := k + 1) e]
            exact q H3 (Kp.of s23) fun s z => by rw [e] at z; cases z
        · refine ⟨.str _, rfl, in_new (l := ["true", "false"]) rfl (by decide) fun H2 s2 => iteF ?_⟩
          refine ⟨.str _, rfl, rfl, _, rfl, iteF ?_⟩
          refine ⟨.str _, rfl, in_new (l := ["both", "either"]) rfl (by decide) fun H3 s3 => iteF ?_⟩
          refine ⟨.str _, rfl, in_new (l := ["all", "some"]) rfl (by decide) fun H4 s4 => iteT ?_⟩
          have s24 := (s2.trans s3).trans s4
          refine ⟨.ref p1, rfl, p1, xs1, rfl, .inr (SqT.of (Kp.of s24 _ _ np1 hp1)), rfl, _, rfl, ?_⟩
          rw [hl1]
          refine ite2 (fun z => ?_) (fun z => ?_)
          · have z := veq z
            obtain ⟨l, d2, rfl⟩ : ∃ d1 d2, rest = [d1, d2] := by
              match rest, (by omega : rest.length = 2) with
              | [a, b], _ => exact ⟨a, b, rfl⟩
            have e : say (.tuple [.str "all", l, d2]) = bq true [l, d2] [say l, say d2] := by rw [hsay, bw_al, says2]
            refine ⟨.ref p1, rfl, ix_at (n := 0) (hd1.same s24) rfl fun x hx => ⟨D, x, l, n, rfl, hx, smr l (by simp), fun H5 s5 => ⟨_, rfl, ?_⟩⟩⟩
            have s25 := s24.trans s5
            cases hl : letB l with
            | false =>
              have e2 : letOf l = none := by
                unfold letB at hl
                cases h : letOf l with
                | none => rfl
                | some _ => rw [h] at hl; cases hl
              have e : say (.tuple [.str "all", l, d2]) = none := by rw [e]; unfold bq; simp only [e2]
              refine iteF ?_
              rw [← fit_none (k := k + 1) e]
              exact q H5 (Kp.of s25) fun s z => by rw [e] at z; cases z
            | true =>
              obtain ⟨x1, e2⟩ := letOf_b.mpr hl
              refine iteT ⟨.ref p1, rfl, call 1 d2 ps H5 (Kp.of s25) rfl (hf.same s25) (by omega) _ fun H6 k6 f6 => ?_⟩
              cases h2 : say d2 with
              | none =>
                have e : say (.tuple [.str "all", l, d2]) = none := by rw [e, h2]; unfold bq; simp only [e2]
                rw [fit_none h2, ← fit_none (k := k + 1) e]
                exact q H6 k6 fun s z => by rw [e] at z; cases z
              | some u =>
                have e : say (.tuple [.str "all", l, d2]) = some (.qu true x1 u) := by rw [e, h2]; unfold bq; simp only [e2]
                have : fitB k d2 = fitB (k + 1) (.tuple [.str "all", l, d2]) := by
                  rw [fit_some h2, fit_some e]
                  exact decide_eq_decide.mpr (by rw [depth_qu]; omega)
                rw [this]
                refine q H6 k6 fun s z hz => ?_
                rw [e] at z
                cases z
                rw [depth_qu] at hz
                exact f6 u h2 (by omega)
          · have z := vne z
            have e : say (.tuple (.str "all" :: rest)) = none := by rw [hsay, bw_al]; exact bq_len (by omega)
            rw [← fit_none (k := k + 1) e]
            exact q H4 (Kp.of s24) fun s z => by rw [e] at z; cases z
        · refine ⟨.str _, rfl, in_new (l := ["true", "false"]) rfl (by decide) fun H2 s2 => iteF ?_⟩
          refine ⟨.str _, rfl, rfl, _, rfl, iteF ?_⟩
          refine ⟨.str _, rfl, in_new (l := ["both", "either"]) rfl (by decide) fun H3 s3 => iteF ?_⟩
          refine ⟨.str _, rfl, in_new (l := ["all", "some"]) rfl (by decide) fun H4 s4 => iteT ?_⟩
          have s24 := (s2.trans s3).trans s4
          refine ⟨.ref p1, rfl, p1, xs1, rfl, .inr (SqT.of (Kp.of s24 _ _ np1 hp1)), rfl, _, rfl, ?_⟩
          rw [hl1]
          refine ite2 (fun z => ?_) (fun z => ?_)
          · have z := veq z
            obtain ⟨l, d2, rfl⟩ : ∃ d1 d2, rest = [d1, d2] := by
              match rest, (by omega : rest.length = 2) with
              | [a, b], _ => exact ⟨a, b, rfl⟩
            have e : say (.tuple [.str "some", l, d2]) = bq false [l, d2] [say l, say d2] := by rw [hsay, bw_so, says2]
            refine ⟨.ref p1, rfl, ix_at (n := 0) (hd1.same s24) rfl fun x hx => ⟨D, x, l, n, rfl, hx, smr l (by simp), fun H5 s5 => ⟨_, rfl, ?_⟩⟩⟩
            have s25 := s24.trans s5
            cases hl : letB l with
            | false =>
              have e2 : letOf l = none := by
                unfold letB at hl
                cases h : letOf l with
                | none => rfl
                | some _ => rw [h] at hl; cases hl
              have e : say (.tuple [.str "some", l, d2]) = none := by rw [e]; unfold bq; simp only [e2]
              refine iteF ?_
              rw [← fit_none (k := k + 1) e]
              exact q H5 (Kp.of s25) fun s z => by rw [e] at z; cases z
            | true =>
              obtain ⟨x1, e2⟩ := letOf_b.mpr hl
              refine iteT ⟨.ref p1, rfl, call 1 d2 ps H5 (Kp.of s25) rfl (hf.same s25) (by omega) _ fun H6 k6 f6 => ?_⟩
              cases h2 : say d2 with
              | none =>
                have e : say (.tuple [.str "some", l, d2]) = none := by rw [e, h2]; unfold bq; simp only [e2]
                rw [fit_none h2, ← fit_none (k := k + 1) e]
                exact q H6 k6 fun s z => by rw [e] at z; cases z
              | some u =>
                have e : say (.tuple [.str "some", l, d2]) = some (.qu false x1 u) := by rw [e, h2]; unfold bq; simp only [e2]
                have : fitB k d2 = fitB (k + 1) (.tuple [.str "some", l, d2]) := by
                  rw [fit_some h2, fit_some e]
                  exact decide_eq_decide.mpr (by rw [depth_qu]; omega)
                rw [this]
                refine q H6 k6 fun s z hz => ?_
                rw [e] at z
                cases z
                rw [depth_qu] at hz
                exact f6 u h2 (by omega)
          · have z := vne z
            have e : say (.tuple (.str "some" :: rest)) = none := by rw [hsay, bw_so]; exact bq_len (by omega)
            rw [← fit_none (k := k + 1) e]
            exact q H4 (Kp.of s24) fun s z => by rw [e] at z; cases z
        · have nt : ∀ l : List Str, (∀ x ∈ l, x ∈ words) → decide (wd ∈ l) = false := fun l h => decide_eq_false fun m => hw (h _ m)
          refine ⟨.str _, rfl, in_new (l := ["true", "false"]) rfl (by decide) fun H2 s2 => ?_⟩
          rw [nt _ (by decide)]
          refine iteF ⟨.str _, rfl, rfl, _, rfl, ?_⟩
          rw [show decide (V.str wd = V.str "not") = false from decide_eq_false fun e => hw (by injection e with e; rw [e]; decide)]
          refine iteF ⟨.str _, rfl, in_new (l := ["both", "either"]) rfl (by decide) fun H3 s3 => ?_⟩
          rw [nt _ (by decide)]
          refine iteF ⟨.str _, rfl, in_new (l := ["all", "some"]) rfl (by decide) fun H4 s4 => ?_⟩
          rw [nt _ (by decide)]
          have s24 := (s2.trans s3).trans s4
          obtain ⟨rv, hrv, hrs⟩ := hrz wd
          refine iteF ⟨.str wd, rfl, wd, rv, rfl, rfl, hrv, _, rfl, ?_⟩
          rw [hrs, decide_eq_true hr2]
          refine iteF ⟨.ref p1, rfl, p1, xs1, rfl, .inr (SqT.of (Kp.of s24 _ _ np1 hp1)), rfl, _, rfl, ?_⟩
          rw [hl1]
          have hre := bw_re hr2 rest (says rest)
          refine ite2 (fun z => ?_) (fun z => ?_)
          · have z : rest.length ≠ 1 := fun e => by rw [e] at z; exact absurd z (by decide)
            have e : say (.tuple (.str wd :: rest)) = none := by rw [hsay, hre]; exact br_len z
            rw [← fit_none (k := k + 1) e]
            exact q H4 (Kp.of s24) fun s z => by rw [e] at z; cases z
          · have z : rest.length = 1 := by
              refine Decidable.byContradiction fun ne => z ?_
              rw [decide_eq_false fun e => ne (by injection e with e; omega)]
              rfl
            obtain ⟨d1, rfl⟩ : ∃ d1, rest = [d1] := List.length_eq_one_iff.mp z
            refine ⟨.ref p1, rfl, ix_at (n := 0) (hd1.same s24) rfl fun x hx => ⟨D, x, d1, n, rfl, hx, smr d1 (by simp), fun H5 s5 => ⟨_, rfl, ?_⟩⟩⟩
            have s25 := s24.trans s5
            have e : say (.tuple [.str wd, d1]) = if smallB d1 then some (.re wd d1) else none := by rw [hsay, hre]; rfl
            cases hsm : smallB d1 with
            | false =>
              rw [hsm, if_neg Bool.false_ne_true] at e
              refine iteT ?_
              rw [← fit_none (k := k + 1) e]
              exact q H5 (Kp.of s25) fun s z => by rw [e] at z; cases z
            | true =>
              rw [hsm, if_pos rfl] at e
              obtain ⟨ik, dk, ds1, rfl, _⟩ := small_k hsm
              refine iteF ⟨.ref D, rfl, .ref p1, rfl, ix_at (n := 0) (hd1.same s25) rfl fun y hy => ?_⟩
              obtain ⟨b, ys, rfl, nb2, hb2, hy2⟩ := da_tup hy
              refine ⟨D, b, _, ps, rfl, rfl, rfl, hy, ik, by omega, hf.same s25, by omega, fun H6 k6 f6 => ?_⟩
              have e1 : fitB (k + 1) (.tuple [.str wd, .tuple ds1]) = true := by
                rw [fit_some e]
                exact decide_eq_true (by show 1 ≤ k + 1; omega)
              rw [← e1]
              refine q H6 ((Kp.of s25).trans k6) fun s z _ => ?_
              rw [e] at z
              cases z
              exact fd_put f6
        · have nt : ∀ l : List Str, (∀ x ∈ l, x ∈ words) → decide (wd ∈ l) = false := fun l h => decide_eq_false fun m => hw (h _ m)
          refine ⟨.str _, rfl, in_new (l := ["true", "false"]) rfl (by decide) fun H2 s2 => ?_⟩
          rw [nt _ (by decide)]
          refine iteF ⟨.str _, rfl, rfl, _, rfl, ?_⟩
          rw [show decide (V.str wd = V.str "not") = false from decide_eq_false fun e => hw (by injection e with e; rw [e]; decide)]
          refine iteF ⟨.str _, rfl, in_new (l := ["both", "either"]) rfl (by decide) fun H3 s3 => ?_⟩
          rw [nt _ (by decide)]
          refine iteF ⟨.str _, rfl, in_new (l := ["all", "some"]) rfl (by decide) fun H4 s4 => ?_⟩
          rw [nt _ (by decide)]
          have s24 := (s2.trans s3).trans s4
          obtain ⟨rv, hrv, hrs⟩ := hrz wd
          refine iteF ⟨.str wd, rfl, wd, rv, rfl, rfl, hrv, _, rfl, ?_⟩
          rw [hrs, decide_eq_false hr2]
          refine iteT ?_
          have e : say (.tuple (.str wd :: rest)) = none := by rw [hsay]; exact bw_no hw hr2 _ _
          rw [← fit_none (k := k + 1) e]
          exact q H4 (Kp.of s24) fun s z => by rw [e] at z; cases z
end
end K43

set_option Elab.async false
set_option linter.all false
set_option maxRecDepth 100000
set_option maxHeartbeats 8000000
local macro_rules | `(tactic| walk_at "rd") => `(tactic| dsimp only [Evl.tCut, L2.tSeq, L2.tNext, L2.tRet, L2.tRetN, L2.tAsg, L2.gName, L2.tIfS, L2.tDrop, L2.tCons, L2.tNil, L2.tC, L2.tVar, L2.tCB, L2.tAndV, L2.tOrV, L2.tNotV, L2.tB, L2.tTest, L2.tOp, L2.tUn, L2.tNot, L2.tAnd, L2.tOr, L2.tIf, L2.tCall, L2.tTup, L2.tLst, L2.tNotT, L2.tYes, L2.gTup, L2.gCons, L2.gNil, L2.gSub, L2.tBM0, L2.tBM, L2.tWhile, L2.tFor, L2.iRng1, L2.iRng2, L2.tAugS, Tw.iEnumT, L2.tCKw, L2.tAug, L2.ipI, RT.iRevA, L2.tPar, L2.tPar3, L2.tSl, L2.tNoPart, L2.tPart, Tw.tRevT, Tw.tFput])
namespace K43
open PySem PySem.Spec PyProof.Rows L2 Tw
/-- the saying that the datum is, if it is one -/
def dueB (d : PyData) : Bool := match say d with
  | some s => decide (s.depth ≤ 10) && decide (s.polys.length ≤ 8)
  | none => false
def spUn : Sp := fun vs H Q _ => ∃ (a : Addr) (v : V) (s : Say) (n : Nat), vs = [v] ∧ H a ≠ none ∧ Da a H v s.d ∧ Sm n 1000 s.d ∧ say s.d = some s ∧ s.depth ≤ 10 ∧ ∀ v' D H', Same H H' → H' D ≠ none → (∀ zs, H' D ≠ some (.tup zs)) → Da D H' v' (.tuple s.polys) → Q v' H'
def spCheck : Sp := fun vs H Q _ => ∃ (a : Addr) (v : V) (s : Say) (n : Nat), vs = [v] ∧ H a ≠ none ∧ Da a H v s.d ∧ Sm n 1000 s.d ∧ say s.d = some s ∧ s.depth ≤ 10 ∧ s.polys.length ≤ 8 ∧ ∀ v' H', Same H H' → Q v' H'
def spPolysOf : Sp := fun vs H Q _ => ∃ (a : Addr) (v : V) (s : Say) (n : Nat), vs = [v] ∧ H a ≠ none ∧ Da a H v s.d ∧ Sm n 1000 s.d ∧ say s.d = some s ∧ s.depth ≤ 10 ∧ s.polys.length ≤ 8 ∧ ∀ v' D H', Same H H' → H' D ≠ none → (∀ zs, H' D ≠ some (.tup zs)) → Da D H' v' (.tuple s.polys) → Q v' H'
def spDepthOf : Sp := fun vs H Q _ => ∃ (a : Addr) (v : V) (s : Say) (n : Nat), vs = [v] ∧ H a ≠ none ∧ Da a H v s.d ∧ Sm n 1000 s.d ∧ say s.d = some s ∧ s.depth ≤ 10 ∧ s.polys.length ≤ 8 ∧ ∀ H', Same H H' → Q (.int (s.depth : Int)) H'
def spDepth (N : Nat) : Sp := fun vs H Q _ => ∃ (a : Addr) (v : V) (s : Say), vs = [v] ∧ Da a H v s.d ∧ s.ok ∧ s.depth ≤ N ∧ ∀ H', Same H H' → Q (.int (s.depth : Int)) H'
theorem da_of {a D : Addr} {H : Hp} {v : V} {d : PyData} (h : Da a H v d) : True := trivial
theorem rel_word {w : Str} (h : w ∈ rels) (l : List Str) (hl : ∀ x ∈ l, x ∈ words) : decide (w ∈ l) = false := decide_eq_false fun m => words_apart w h (hl _ m)
theorem rel_not {w x : Str} (h : w ∈ rels) (hx : x ∈ words) : decide (V.str w = V.str x) = false := decide_eq_false fun e => words_apart w h (by injection e with e; rw [e]; exact hx)
section
variable {P : Program} {w : World} {K : PySem.W.Frag} {mg : Str → Option Value} {base : Heap}
theorem fit_zero (D : Def K mg "does_fit" sFit ["value", "deep", "found"]) (nb : Nb mg) : Cal P w K mg base "does_fit" 5 ["value", "deep", "found"] (spFit P w 0) := by
  refine D.ok scFit (fit_many 0) (fun f cdv A out s H vs Q E hr h => ?_)
  obtain ⟨D, v, d, n, ps, rfl, hd, hs, hf, hlen, q⟩ := h
  refine ⟨_, pss_cons (ps_if (PW.pt (pw_or (pt_cmpR op_eq (pv 1) pe_int (nomark _)) (pw_or (pt_not (pt_val (pe_callB (id := "isinstance") (r := rIsi K) call_isi (by rfl) nb.isi (by decide +kernel) (pa_cons (pv 0) (pa_cons (pe_bltn (v := .ty "tuple") (by rfl) nb.tup (by decide +kernel) rfl) pa_nil))))) (pw_or (pt_not (pt_truth (pv 0) (fun _ => rfl))) (pw_or1 (pt_not (pt_val (pe_callB (id := "isinstance") (r := rIsi K) call_isi (by rfl) nb.isi (by decide +kernel) (pa_cons (pe_ix (r := rIxT K) ix_tup (pv 0) pe_int (fun _ _ => rfl)) (pa_cons (pe_bltn (v := .ty "str") (by rfl) nb.str (by decide +kernel) rfl) pa_nil)))))))))) (pss_one (ps_ret pe_bl)) pss_nil) pss_dead, ?_⟩
  walk_at "rd"
  refine ⟨.int ((0 : Nat) : Int), rfl, rfl, _, rfl, ite2 (fun _ => iteT ?_) (fun z => absurd (decide_eq_true rfl) z)⟩
  have e : fitB 0 d = false := by
    unfold fitB
    split
    · rename_i s _
      exact decide_eq_false (by have := s.depth_pos; omega)
    · rfl
  rw [← e]
  exact q H (Kp.refl _ _) fun s _ z => absurd z (by have := s.depth_pos; omega)
theorem fit_all (D : Def K mg "does_fit" sFit ["value", "deep", "found"]) (nb : Nb mg) (cs : Cs K w mg) (cL : Cal P w K mg base "is_letter" 1 ["value"] (spB letB)) (cS : Cal P w K mg base "is_small_poly" 4 ["value"] (spB smallB)) : ∀ k : Nat, Cal P w K mg base "does_fit" (k + 5) ["value", "deep", "found"] (spFit P w k)
  | 0 => fit_zero D nb
  | k + 1 => fit_step D nb cs cL cS (fit_all D nb cs cL cS k)
theorem scIsSaying : FnScope ["value", "found"] ["value"] (defScope sIsSaying) := ⟨rfl, rfl, rfl, by decide +kernel, rfl, by decide +kernel, by decide +kernel⟩
theorem ok_isSaying (D : Def K mg "is_saying" sIsSaying ["value"]) (nb : Nb mg) (cs : Cs K w mg) (cF : Cal P w K mg base "does_fit" 15 ["value", "deep", "found"] (spFit P w 10)) : Cal P w K mg base "is_saying" 16 ["value"] (spB dueB) := by
  obtain ⟨t10, h10⟩ := cs.dee
  obtain ⟨t8, h8⟩ := cs.mun
  refine D.ok scIsSaying (fun vs H Q E h => ?_) (fun f cdv A out s H vs Q E hr h => ?_)
  · obtain ⟨a, v, d, m, rfl, _⟩ := h; rfl
  obtain ⟨a, v, d, m, rfl, hd, hs, q⟩ := h
  refine ⟨_, (pss_cons (ps_set (i := 1) scIsSaying.nd rfl (Or.inl rfl) pe_fnew)
    (pss_one (ps_ret (pe_and (pe_cal cF hr (by decide) (by rfl) (pa_cons (pv 0) (pa_cons (pe_glob (v := .int 10) (by rfl) h10 ⟨t10, rfl⟩) (pa_cons (pv 1) pa_nil)))) (pe_one (pe_cmpR op_le (pe_callB (id := "len") (r := rLenF P w) call_lenF (by rfl) nb.len PySem.boot_len (pa_cons (pv 1) pa_nil)) (pe_glob (v := .int 8) (by rfl) h8 ⟨t8, rfl⟩) (nomark _))))))), ?_⟩
  walk_at "rd"
  intro D H1 s1 nD f1 dn _
  refine ⟨v, rfl, .ref D, rfl, D, v, d, m, [], rfl, dn _ _ _ hd, hs, f1, by decide, fun H2 k2 f2 => ⟨_, rfl, ?_⟩⟩
  have s2 := same_kp s1 nD k2
  cases hb : fitB 10 d with
  | false =>
    refine iteF ?_
    have e : dueB d = false := by
      unfold dueB
      unfold fitB at hb
      split
      · rename_i s e
        rw [e] at hb
        have hb : decide (s.depth ≤ 10) = false := hb
        rw [hb]; rfl
      · rfl
    rw [← e]
    exact q H2 s2
  | true =>
    obtain ⟨t, h1, ht1⟩ : ∃ t, say d = some t ∧ t.depth ≤ 10 := by
      unfold fitB at hb
      split at hb
      · exact ⟨_, by assumption, of_decide_eq_true hb⟩
      · cases hb
    have f2 := f2 t h1 ht1
    rw [un_nil] at f2
    have pl := Say.polys_len t
    have pp : 2 ^ t.depth ≤ 2 ^ 10 := Nat.pow_le_pow_right (by decide) ht1
    refine iteT ⟨.ref D, rfl, D, t.polys, rfl, f2, by omega, _, _, rfl, rfl, ?_⟩
    have e : dueB d = decide (((t.polys.length : Nat) : Int) ≤ 8) := by
      unfold dueB
      rw [h1]
      show (decide (t.depth ≤ 10) && decide (t.polys.length ≤ 8)) = _
      rw [decide_eq_true ht1, Bool.true_and]
      exact decide_eq_decide.mpr (by omega)
    show Q (.bl (decide (((t.polys.length : Nat) : Int) ≤ 8))) H2
    rw [← e]
    exact q H2 s2
theorem scUnlike : FnScope ["saying", "found"] ["saying"] (defScope sUnlike) := ⟨rfl, rfl, rfl, by decide +kernel, rfl, by decide +kernel, by decide +kernel⟩
theorem ok_unlike (D : Def K mg "unlike_polys" sUnlike ["saying"]) (nb : Nb mg) (cs : Cs K w mg) (cF : Cal P w K mg base "does_fit" 15 ["value", "deep", "found"] (spFit P w 10)) : Cal P w K mg base "unlike_polys" 16 ["saying"] spUn := by
  obtain ⟨t10, h10⟩ := cs.dee
  refine D.ok scUnlike (fun vs H Q E h => ?_) (fun f cdv A out s H vs Q E hr h => ?_)
  · obtain ⟨a, v, s, n, rfl, _⟩ := h; rfl
  obtain ⟨a, v, t, n, rfl, ha, hd, hs, hsay, h10', q⟩ := h
  refine ⟨_, (pss_cons (ps_set (i := 1) scUnlike.nd rfl (Or.inl rfl) pe_fnew)
    (pss_cons (ps_if (pt_not (pt_val (pe_cal cF hr (by decide) (by rfl) (pa_cons (pv 0) (pa_cons (pe_glob (v := .int 10) (by rfl) h10 ⟨t10, rfl⟩) (pa_cons (pv 1) pa_nil)))))) pss_dead pss_nil)
    (pss_one (ps_ret (pe_callTy (T := "tuple") call_tuple_of (by rfl) nb.tup (by decide +kernel) (pa_cons (pe_callTy (T := "list") (call_listF rfl) (by rfl) nb.lst (by decide +kernel) (pa_cons (pv 1) pa_nil)) pa_nil)))))), ?_⟩
  walk_at "rd"
  intro D H1 s1 nD f1 dn _
  refine ⟨v, rfl, .ref D, rfl, D, v, t.d, n, [], rfl, dn _ _ _ hd, hs, f1, by decide, fun H2 k2 f2 => ⟨_, rfl, ?_⟩⟩
  have s2 := same_kp s1 nD k2
  have f2 := f2 t hsay h10'
  rw [un_nil] at f2
  rw [fit_some hsay, decide_eq_true h10']
  have pl := Say.polys_len t
  have pp : 2 ^ t.depth ≤ 2 ^ 10 := Nat.pow_le_pow_right (by decide) h10'
  refine iteF ⟨.ref D, rfl, D, t.polys, rfl, f2, by omega, fun l ys nl hy => ?_⟩
  have s3 := same_new (o := .lst ys) nl
  refine ⟨l, ys, rfl, .inl ⟨SqL.of upd_same, fun z nz => ?_⟩⟩
  have s4 := same_new (o := .tup ys) nz
  have hD := same_some s3 f2.some
  have hO : ∀ zs, upd H2 l (.lst ys) D ≠ some (.tup zs) := by
    obtain ⟨es, e, _⟩ := f2
    rw [s3 _ _ e]
    unfold FdO
    nofun
  exact q _ D _ (s2.trans (s3.trans s4)) (same_some s4 hD) (fun zs z => by
    cases e : upd H2 l (.lst ys) D with
    | none => exact hD e
    | some o => rw [s4 _ _ e] at z; cases z; exact hO zs e) (.tup (new_ne hD nz) upd_same (hy.same (s3.trans s4)))
theorem scCheck : FnScope ["saying", "many"] ["saying"] (defScope sCheck) := ⟨rfl, rfl, rfl, by decide +kernel, rfl, by decide +kernel, by decide +kernel⟩
theorem ok_check (D : Def K mg "check_saying" sCheck ["saying"]) (nb : Nb mg) (cs : Cs K w mg) (cU : Cal P w K mg base "unlike_polys" 16 ["saying"] spUn) : Cal P w K mg base "check_saying" 17 ["saying"] spCheck := by
  obtain ⟨t8, h8⟩ := cs.mun
  refine D.ok scCheck (fun vs H Q E h => ?_) (fun f cdv A out s H vs Q E hr h => ?_)
  · obtain ⟨a, v, s, n, rfl, _⟩ := h; rfl
  obtain ⟨a, v, t, n, rfl, ha, hd, hs, hsay, h10', hp, q⟩ := h
  refine ⟨_, (pss_cons (ps_set (i := 1) scCheck.nd rfl (Or.inl rfl) (pe_callB (id := "len") (r := rLn K) call_len_seq (by rfl) nb.len PySem.boot_len (pa_cons (pe_cal cU hr (by decide) (by rfl) (pa_cons (pv 0) pa_nil)) pa_nil)))
    (pss_one (ps_if (pt_cmpR op_gt (pv 1) (pe_glob (v := .int 8) (by rfl) h8 ⟨t8, rfl⟩) (nomark _)) pss_dead pss_nil))), ?_⟩
  walk_at "rd"
  refine ⟨v, rfl, a, v, t, n, rfl, ha, hd, hs, hsay, h10', fun v' D H1 s1 hD _ d1 => ?_⟩
  obtain ⟨p, xs, rfl, np, hpp, hx⟩ := da_tup d1
  refine ⟨p, xs, rfl, .inr (SqT.of hpp), _, rfl, _, _, rfl, rfl, _, rfl, ?_⟩
  rw [hx.len]
  refine ite2 (fun z => absurd (of_decide_eq_true z) (by omega)) (fun _ => q _ H1 s1)
theorem scDepthIn : FnScope ["saying", "word"] ["saying"] (defScope sDepthIn) := ⟨rfl, rfl, rfl, by decide +kernel, rfl, by decide +kernel, by decide +kernel⟩
theorem depth_step {N : Nat} (D : Def K mg "depth_in" sDepthIn ["saying"]) (nb : Nb mg) (c : Cal P w K mg base "depth_in" (N + 1) ["saying"] (spDepth N)) : Cal P w K mg base "depth_in" (N + 2) ["saying"] (spDepth (N + 1)) := by
  refine D.ok scDepthIn (fun vs H Q E h => ?_) (fun f cdv A out s H vs Q E hr h => ?_)
  · obtain ⟨a, v, s, rfl, _⟩ := h; rfl
  obtain ⟨a, v, t, rfl, hd, ho, hN, q⟩ := h
  refine ⟨_, (pss_cons (ps_set (i := 1) scDepthIn.nd rfl (Or.inl rfl) (pe_ix (r := rIxT K) ix_tup (pv 0) pe_int (fun _ _ => rfl)))
    (pss_cons (ps_if (pt_cmpR op_eq (pv 1) pe_str (nomark _)) (pss_one (ps_ret (pe_op op_add pe_int (pe_cal c hr (by omega) (by rfl) (pa_cons (pe_ix (r := rIxT K) ix_tup (pv 0) pe_int (fun _ _ => rfl)) pa_nil))))) pss_nil)
    (pss_cons (ps_if (pt_cmpR op_in_seq (pv 1) (pe_tup (pa_cons pe_str (pa_cons pe_str pa_nil))) (by rfl)) (pss_one (ps_ret (pe_op op_add pe_int (pe_callB (id := "max") (call_max2 rfl) (by rfl) nb.max (by decide +kernel) (pa_cons (pe_cal c hr (by omega) (by rfl) (pa_cons (pe_ix (r := rIxT K) ix_tup (pv 0) pe_int (fun _ _ => rfl)) pa_nil)) (pa_cons (pe_cal c hr (by omega) (by rfl) (pa_cons (pe_ix (r := rIxT K) ix_tup (pv 0) pe_int (fun _ _ => rfl)) pa_nil)) pa_nil)))))) pss_nil)
    (pss_one (ps_ret (pe_ifExp (pt_cmpR op_in_seq (pv 1) (pe_tup (pa_cons pe_str (pa_cons pe_str pa_nil))) (by rfl)) (pe_op op_add pe_int (pe_cal c hr (by omega) (by rfl) (pa_cons (pe_ix (r := rIxT K) ix_tup (pv 0) pe_int (fun _ _ => rfl)) pa_nil))) pe_int)))))), ?_⟩
  walk_at "rd"
  cases t with
  | tt =>
    refine ⟨v, rfl, ix_at (n := 0) hd rfl fun x hx => ?_⟩
    cases hx
    refine ⟨.str _, rfl, rfl, _, rfl, iteF ⟨.str _, rfl, in_new (l := ["both", "either"]) rfl (by decide) fun H2 s2 => iteF ⟨.str _, rfl, in_new (l := ["all", "some"]) rfl (by decide) fun H3 s3 => iteF (q H3 (s2.trans s3))⟩⟩⟩
  | ff =>
    refine ⟨v, rfl, ix_at (n := 0) hd rfl fun x hx => ?_⟩
    cases hx
    refine ⟨.str _, rfl, rfl, _, rfl, iteF ⟨.str _, rfl, in_new (l := ["both", "either"]) rfl (by decide) fun H2 s2 => iteF ⟨.str _, rfl, in_new (l := ["all", "some"]) rfl (by decide) fun H3 s3 => iteF (q H3 (s2.trans s3))⟩⟩⟩
  | nn u =>
    rw [depth_nn] at hN
    refine ⟨v, rfl, ix_at (n := 0) hd rfl fun x hx => ?_⟩
    cases hx
    refine ⟨.str _, rfl, rfl, _, rfl, iteT ⟨v, rfl, ix_at (n := 1) hd rfl fun x hx => ⟨a, x, u, rfl, hx, ho, by omega, fun H2 s2 => ⟨_, _, rfl, rfl, q H2 s2⟩⟩⟩⟩
  | bo b u u2 =>
    rw [depth_bo] at hN
    refine ⟨v, rfl, ix_at (n := 0) hd rfl fun x hx => ?_⟩
    cases hx
    have hm : ((if (u2.depth : Int) > (u.depth : Int) then (u2.depth : Int) else (u.depth : Int)) : Int) = ((max u.depth u2.depth : Nat) : Int) := by split <;> omega
    have fin : ∀ H2, Same H H2 → ∃ v', some (some v) = some (some v') ∧ rIxT K v' (.int 1) H2 fun x H3 => spDepth N [x] H3 (fun y H4 => ∃ v', some (some v) = some (some v') ∧ rIxT K v' (.int 2) H4 fun x2 H5 => spDepth N [x2] H5 (fun y2 H6 => ∃ i j, [y, y2] = [.int i, .int j] ∧ ∃ k l, V.int 1 = .int k ∧ V.int (if j > i then j else i) = .int l ∧ Q (.int (k + l)) H6) E0) E0 := fun H2 s2 =>
      ⟨v, rfl, ix_at (n := 1) (hd.same s2) rfl fun x hx => ⟨a, x, u, rfl, hx, ho.1, by omega, fun H3 s3 => ⟨v, rfl, ix_at (n := 2) (hd.same (s2.trans s3)) rfl fun y hy => ⟨a, y, u2, rfl, hy, ho.2, by omega, fun H4 s4 => ⟨_, _, rfl, _, _, rfl, rfl, by rw [hm]; exact q H4 ((s2.trans s3).trans s4)⟩⟩⟩⟩⟩
    cases b with
    | true => exact ⟨.str _, rfl, rfl, _, rfl, iteF ⟨.str _, rfl, in_new (l := ["both", "either"]) rfl (by decide) fun H2 s2 => iteT (fin H2 s2)⟩⟩
    | false => exact ⟨.str _, rfl, rfl, _, rfl, iteF ⟨.str _, rfl, in_new (l := ["both", "either"]) rfl (by decide) fun H2 s2 => iteT (fin H2 s2)⟩⟩
  | qu al x1 u =>
    rw [depth_qu] at hN
    refine ⟨v, rfl, ix_at (n := 0) hd rfl fun x hx => ?_⟩
    cases hx
    have fin : ∀ H2, Same H H2 → ∃ v', some (some v) = some (some v') ∧ rIxT K v' (.int 2) H2 fun x H3 => spDepth N [x] H3 (fun y H4 => ∃ i j, V.int 1 = .int i ∧ y = .int j ∧ Q (.int (i + j)) H4) E0 := fun H2 s2 =>
      ⟨v, rfl, ix_at (n := 2) (hd.same s2) rfl fun x hx => ⟨a, x, u, rfl, hx, ho, by omega, fun H3 s3 => ⟨_, _, rfl, rfl, q H3 (s2.trans s3)⟩⟩⟩
    cases al with
    | true => exact ⟨.str _, rfl, rfl, _, rfl, iteF ⟨.str _, rfl, in_new (l := ["both", "either"]) rfl (by decide) fun H2 s2 => iteF ⟨.str _, rfl, in_new (l := ["all", "some"]) rfl (by decide) fun H3 s3 => iteT (fin H3 (s2.trans s3))⟩⟩⟩
    | false => exact ⟨.str _, rfl, rfl, _, rfl, iteF ⟨.str _, rfl, in_new (l := ["both", "either"]) rfl (by decide) fun H2 s2 => iteF ⟨.str _, rfl, in_new (l := ["all", "some"]) rfl (by decide) fun H3 s3 => iteT (fin H3 (s2.trans s3))⟩⟩⟩
  | re wd p =>
    refine ⟨v, rfl, ix_at (n := 0) hd rfl fun x hx => ?_⟩
    cases hx
    refine ⟨.str _, rfl, rfl, _, rfl, ?_⟩
    rw [rel_not ho.1 (by decide)]
    refine iteF ⟨.str _, rfl, in_new (l := ["both", "either"]) rfl (by decide) fun H2 s2 => ?_⟩
    rw [rel_word ho.1 _ (by decide)]
    refine iteF ⟨.str _, rfl, in_new (l := ["all", "some"]) rfl (by decide) fun H3 s3 => ?_⟩
    rw [rel_word ho.1 _ (by decide)]
    exact iteF (q H3 (s2.trans s3))
theorem depth_all (D : Def K mg "depth_in" sDepthIn ["saying"]) (nb : Nb mg) : ∀ N : Nat, Cal P w K mg base "depth_in" (N + 1) ["saying"] (spDepth N)
  | 0 => by
    have no : ∀ vs H Q E, ¬ spDepth 0 vs H Q E := fun vs H Q E h => by
      obtain ⟨a, v, s, _, _, _, h1, _⟩ := h
      have := s.depth_pos
      omega
    obtain ⟨f, fd, F, m, b⟩ := D
    exact ⟨f, fd, ⟨fun vs H Q E h => absurd h (no vs H Q E), fun A out s H g us vs Q E _ _ _ _ h => absurd h (no vs H Q E)⟩, m, F.kp, b, fdAt F⟩
  | N + 1 => depth_step D nb (depth_all D nb N)
theorem scDepthOf : FnScope ["saying"] ["saying"] (defScope sDepthOf) := ⟨rfl, rfl, rfl, by decide +kernel, rfl, by decide +kernel, by decide +kernel⟩
theorem ok_depthOf (D : Def K mg "depth_of" sDepthOf ["saying"]) (nb : Nb mg) (cC : Cal P w K mg base "check_saying" 17 ["saying"] spCheck) (cD : Cal P w K mg base "depth_in" 11 ["saying"] (spDepth 10)) : Cal P w K mg base "depth_of" 18 ["saying"] spDepthOf := by
  refine D.ok scDepthOf (fun vs H Q E h => ?_) (fun f cdv A out s H vs Q E hr h => ?_)
  · obtain ⟨a, v, s, n, rfl, _⟩ := h; rfl
  obtain ⟨a, v, t, n, rfl, ha, hd, hs, hsay, h10', hp, q⟩ := h
  refine ⟨_, (pss_cons (ps_expr (pe_cal cC hr (by decide) (by rfl) (pa_cons (pv 0) pa_nil)))
    (pss_one (ps_ret (pe_cal cD hr (by decide) (by rfl) (pa_cons (pv 0) pa_nil))))), ?_⟩
  walk_at "rd"
  exact ⟨v, rfl, a, v, t, n, rfl, ha, hd, hs, hsay, h10', hp, fun _ H1 s1 => ⟨v, rfl, a, v, t, rfl, hd.same s1, (say_some hsay).2, h10', fun H2 s2 => q H2 (s1.trans s2)⟩⟩
theorem scPolysOf : FnScope ["saying"] ["saying"] (defScope sPolysOf) := ⟨rfl, rfl, rfl, by decide +kernel, rfl, by decide +kernel, by decide +kernel⟩
theorem ok_polysOf (D : Def K mg "polys_of" sPolysOf ["saying"]) (nb : Nb mg) (cC : Cal P w K mg base "check_saying" 17 ["saying"] spCheck) (cD : Cal P w K mg base "unlike_polys" 16 ["saying"] spUn) : Cal P w K mg base "polys_of" 18 ["saying"] spPolysOf := by
  refine D.ok scPolysOf (fun vs H Q E h => ?_) (fun f cdv A out s H vs Q E hr h => ?_)
  · obtain ⟨a, v, s, n, rfl, _⟩ := h; rfl
  obtain ⟨a, v, t, n, rfl, ha, hd, hs, hsay, h10', hp, q⟩ := h
  refine ⟨_, (pss_cons (ps_expr (pe_cal cC hr (by decide) (by rfl) (pa_cons (pv 0) pa_nil)))
    (pss_one (ps_ret (pe_cal cD hr (by decide) (by rfl) (pa_cons (pv 0) pa_nil))))), ?_⟩
  walk_at "rd"
  exact ⟨v, rfl, a, v, t, n, rfl, ha, hd, hs, hsay, h10', hp, fun _ H1 s1 => ⟨v, rfl, a, v, t, n, rfl, same_some s1 ha, hd.same s1, hs, hsay, h10', fun v2 D H2 s2 hD hT d2 => q v2 D H2 (s1.trans s2) hD hT d2⟩⟩
end
end K43

set_option Elab.async false
set_option linter.all false
set_option maxRecDepth 100000
set_option maxHeartbeats 8000000
local macro_rules | `(tactic| walk_at "rd") => `(tactic| dsimp only [Evl.tCut, L2.tSeq, L2.tNext, L2.tRet, L2.tRetN, L2.tAsg, L2.gName, L2.tIfS, L2.tDrop, L2.tCons, L2.tNil, L2.tC, L2.tVar, L2.tCB, L2.tAndV, L2.tOrV, L2.tNotV, L2.tB, L2.tTest, L2.tOp, L2.tUn, L2.tNot, L2.tAnd, L2.tOr, L2.tIf, L2.tCall, L2.tTup, L2.tLst, L2.tNotT, L2.tYes, L2.gTup, L2.gCons, L2.gNil, L2.gSub, L2.tBM0, L2.tBM, L2.tWhile, L2.tFor, L2.iRng1, L2.iRng2, L2.tAugS, Tw.iEnumT, L2.tCKw, L2.tAug, L2.ipI, RT.iRevA, L2.tPar, L2.tPar3, L2.tSl, L2.tNoPart, L2.tPart, Tw.tRevT, Tw.tFput])
namespace K43
open PySem PySem.Spec PyProof.Rows L2 Tw
/-! free letters -/
def Say.frees (s : Say) : List Str := (if s.free true then (["x"] : List Str) else []) ++ (if s.free false then (["y"] : List Str) else [])
theorem frees_x (s : Say) : decide (("x" : Str) ∈ s.frees) = s.free true := by
  unfold Say.frees
  cases s.free true <;> cases s.free false <;> rfl
theorem frees_y (s : Say) : decide (("y" : Str) ∈ s.frees) = s.free false := by
  unfold Say.frees
  cases s.free true <;> cases s.free false <;> rfl
theorem frees_len (s : Say) : s.frees.length ≤ 2 := by
  unfold Say.frees
  cases s.free true <;> cases s.free false <;> decide
theorem frees_bo (b : Bool) (s t : Say) : (["x", "y"] : List Str).filter (fun l => decide (l ∈ s.frees) || decide (l ∈ t.frees)) = (Say.bo b s t).frees := by
  have h1 : (Say.bo b s t).free true = (s.free true || t.free true) := rfl
  have h2 : (Say.bo b s t).free false = (s.free false || t.free false) := rfl
  rw [List.filter_cons, List.filter_cons, List.filter_nil, frees_x, frees_x, frees_y, frees_y]
  unfold Say.frees
  rw [h1, h2]
  cases s.free true <;> cases s.free false <;> cases t.free true <;> cases t.free false <;> rfl
theorem frees_qu (al x : Bool) (s : Say) : s.frees.filter (fun l => !decide (V.str l = V.str (if x then "x" else "y"))) = (Say.qu al x s).frees := by
  have h1 : (Say.qu al x s).free true = ((x != true) && s.free true) := rfl
  have h2 : (Say.qu al x s).free false = ((x != false) && s.free false) := rfl
  unfold Say.frees
  rw [h1, h2]
  cases x <;> cases s.free true <;> cases s.free false <;> decide
theorem lc_filt {K : PySem.W.Frag} {wi : TI} {j : Nat} {tt : TT} {te : TE} {vs : List Nat} {σ : L2.St} {H : Hp} {Q : VK} {l : List Str} (f : Str → Bool)
    (hi : ∀ R : It → Hp → Prop, (∀ p H1, Same H H1 → (∀ H2, Same H1 H2 → SqT K H2 p (l.map V.str)) → R (Itt K p) H1) → wi σ H R)
    (hl : l.length ≤ 1000) (hw : ∀ x, wipe ((wipe σ vs).set j (some x)) vs = wipe σ vs)
    (ht : ∀ x H1, x ∈ l → Same H H1 → ∀ R : Bool → Hp → Prop, (∀ H2, Same H1 H2 → R (f x) H2) → tt ((wipe σ vs).set j (some (.str x))) H1 R)
    (he : ∀ x H1 (R : VK), R (.str x) H1 → te ((wipe σ vs).set j (some (.str x))) H1 R)
    (q : ∀ D H', Same H H' → H D = none → H' D = some (.lst ((l.filter f).map V.str)) → Q (.ref D) H') : tLc wi (gName j) tt te vs σ H Q := by
  refine hi _ fun p H1 s1 hp D hD => ?_
  refine lc_tup (xs := l.map V.str) (fun m H' => Same H1 H' ∧ H' D = some (.lst (((l.take m).filter f).map V.str))) ⟨same_new hD, upd_same⟩ (fun m H' _ h => hp H' h.1) (fun m x H2 hx h => ?_) (fun H' h => ?_)
  · obtain ⟨h1, h2⟩ := h
    rw [List.getElem?_map] at hx
    cases e : l[m]? with
    | none => rw [e] at hx; cases hx
    | some y =>
      rw [e] at hx
      cases hx
      have hm : m < l.length := (List.getElem?_eq_some_iff.mp e).1
      have et : (l.take (m + 1)).filter f = (l.take m).filter f ++ (if f y then [y] else []) := by
        rw [List.take_add_one, e, List.filter_append]
        congr 1
        cases hf : f y <;> simp [hf]
      refine ⟨hw _, ht y H2 (List.mem_of_getElem? e) (s1.trans h1) _ fun H3 s3 => ?_⟩
      cases hf : f y with
      | true =>
        refine iteT (he y H3 _ ⟨_, s3 _ _ h2, ?_, same_upd (h1.trans s3) hD, ?_⟩)
        · have := List.length_filter_le f (l.take m)
          rw [List.length_take] at this
          rw [List.length_map]
          exact lt_line (by omega)
        · rw [upd_same, et, hf, if_pos rfl, List.map_append]
          rfl
      | false =>
        refine iteF ⟨h1.trans s3, ?_⟩
        rw [et, hf, if_neg Bool.false_ne_true, List.append_nil]
        exact s3 _ _ h2
  · obtain ⟨h1, h2⟩ := h
    rw [List.length_map, List.take_length] at h2
    exact q D H' (s1.trans h1) (s1.free hD) h2
def lets (p : PyData) : List Str := (if decide (1 < widD p) then (["x"] : List Str) else []) ++ (if decide (1 < lenD p) then (["y"] : List Str) else [])
theorem frees_re (w : Str) (p : PyData) : (Say.re w p).frees = lets p := rfl
def spLetters : Sp := fun vs H Q _ => ∃ (a : Addr) (v : V) (d : PyData), vs = [v] ∧ Da a H v d ∧ smallB d = true ∧ ∀ p H', Same H H' → H' p = some (.tup ((lets d).map V.str)) → Q (.ref p) H'
def spFree (N : Nat) : Sp := fun vs H Q _ => ∃ (a : Addr) (v : V) (s : Say), vs = [v] ∧ Da a H v s.d ∧ s.ok ∧ s.depth ≤ N ∧ ∀ p H', Same H H' → H' p = some (.tup (s.frees.map V.str)) → Q (.ref p) H'
def spFreeLetters : Sp := fun vs H Q _ => ∃ (a : Addr) (v : V) (s : Say) (n : Nat), vs = [v] ∧ H a ≠ none ∧ Da a H v s.d ∧ Sm n 1000 s.d ∧ say s.d = some s ∧ s.depth ≤ 10 ∧ s.polys.length ≤ 8 ∧ ∀ p H', Same H H' → H' p = some (.tup (s.frees.map V.str)) → Q (.ref p) H'
section
variable {P : Program} {w : World} {K : PySem.W.Frag} {mg : Str → Option Value} {base : Heap}
theorem scLettersOf : FnScope ["poly", "found"] ["poly"] (defScope sLettersOf) := ⟨rfl, rfl, rfl, by decide +kernel, rfl, by decide +kernel, by decide +kernel⟩
theorem ok_lettersOf (D : Def K mg "letters_of" sLettersOf ["poly"]) (nb : Nb mg) (cW : Cal P w K mg base "width_in_x" 1 ["poly"] spWid) : Cal P w K mg base "letters_of" 2 ["poly"] spLetters := by
  refine D.ok scLettersOf (fun vs H Q E h => ?_) (fun f cdv A out s H vs Q E hr h => ?_)
  · obtain ⟨a, v, d, rfl, _⟩ := h; rfl
  obtain ⟨a, v, d, rfl, hd, hsm, q⟩ := h
  obtain ⟨_, _, ds, rfl, hrow, hl, hw⟩ := small_k hsm
  refine ⟨_, pss_cons (ps_set (i := 1) scLettersOf.nd rfl (Or.inl rfl) (pe_lst pa_nil))
    (Evl.pss_cut (ps_if (pt_cmpR op_gt (pe_cal cW hr (by decide) (by rfl) (pa_cons (pv 0) pa_nil)) pe_int (nomark _)) (pss_one (ps_expr (pe_bm PySem.F.plainAttrs_list PySem.F.slot_list_append PySem.F.type_list_append mt_append (pv 1) (pa_cons pe_str pa_nil)))) pss_nil)
    (Evl.pss_cut (ps_if (pt_cmpR op_gt (pe_callB (id := "len") (r := rLn K) call_len_seq (by rfl) nb.len PySem.boot_len (pa_cons (pv 0) pa_nil)) pe_int (nomark _)) (pss_one (ps_expr (pe_bm PySem.F.plainAttrs_list PySem.F.slot_list_append PySem.F.type_list_append mt_append (pv 1) (pa_cons pe_str pa_nil)))) pss_nil)
    (pss_one (ps_ret (pe_callTy (T := "tuple") call_tuple_of (by rfl) nb.tup (by decide +kernel) (pa_cons (pv 1) pa_nil)))))), ?_⟩
  walk_at "rd"
  refine ⟨sz (by decide), fun L nL => ?_⟩
  have s1 := same_new (o := .lst []) nL
  have hL : upd H L (.lst []) L = some (.lst (([] : List Str).map V.str)) := upd_same
  generalize upd H L (.lst []) = H1 at s1 hL ⊢
  refine ⟨fun σ H' => σ = [some v, some (.ref L)] ∧ Same H H' ∧ H' L = some (.lst (((if decide (1 < widD (.tuple ds)) then (["x"] : List Str) else []) : List Str).map V.str)), ?_, ?_⟩
  · refine ⟨v, rfl, a, v, ds, rfl, hd.same s1, by omega, fun e he => row_tup (hrow e he), fun H2 s2 => ⟨_, _, rfl, rfl, _, rfl, ite2 (fun z => ?_) (fun z => ?_)⟩⟩
    · have z := of_decide_eq_true z
      refine ⟨.ref L, rfl, .inl ⟨rfl, _, SqL.of (s2 _ _ hL)⟩, L, _, .str "x", rfl, rfl, s2 _ _ hL, lt_line (by decide), ?_⟩
      rw [decide_eq_true (by omega : 1 < widD (.tuple ds))]
      exact ⟨rfl, fun b o e => by rw [upd_ne (ne_of_none e nL)]; exact (s1.trans s2) b o e, upd_same⟩
    · rw [decide_eq_false (fun y : 1 < widD (.tuple ds) => z (decide_eq_true (by omega)))]
      exact ⟨rfl, s1.trans s2, s2 _ _ hL⟩
  · rintro σ H2 ⟨rfl, s2, h2⟩
    obtain ⟨p, xs, rfl, np, hp, hx⟩ := da_tup (hd.same s2)
    refine ⟨fun σ H' => σ = [some (.ref p), some (.ref L)] ∧ Same H H' ∧ H' L = some (.lst ((lets (.tuple ds)).map V.str)), ?_, ?_⟩
    · refine ⟨.ref p, rfl, p, xs, rfl, .inr (SqT.of hp), _, _, rfl, rfl, _, rfl, ?_⟩
      rw [hx.len]
      refine ite2 (fun z => ?_) (fun z => ?_)
      · have z := of_decide_eq_true z
        refine ⟨.ref L, rfl, .inl ⟨rfl, _, SqL.of h2⟩, L, _, .str "y", rfl, rfl, h2, lt_line (by rw [List.length_map]; split <;> decide), ?_⟩
        refine ⟨rfl, fun b o e => by rw [upd_ne (ne_of_none e nL)]; exact s2 b o e, ?_⟩
        rw [upd_same]
        unfold lets
        rw [decide_eq_true (by show 1 < ds.length; omega : 1 < lenD (.tuple ds)), List.map_append]
        rfl
      · refine ⟨rfl, s2, ?_⟩
        unfold lets
        rw [decide_eq_false (fun y : 1 < lenD (.tuple ds) => z (decide_eq_true (by have : 1 < ds.length := y; omega))), if_neg Bool.false_ne_true, List.append_nil]
        exact h2
    · rintro σ H3 ⟨rfl, s3, h3⟩
      exact ⟨.ref L, rfl, L, _, rfl, .inl ⟨SqL.of h3, fun z nz => q z _ (s3.trans (same_new nz)) upd_same⟩⟩
theorem scFreeIn : FnScope ["saying", "word", "one", "other", "letter"] ["saying"] (defScope sFreeIn) := ⟨rfl, rfl, rfl, by decide +kernel, rfl, by decide +kernel, by decide +kernel⟩
theorem free_step {N : Nat} (D : Def K mg "free_in" sFreeIn ["saying"]) (nb : Nb mg) (cs : Cs K w mg) (cL : Cal P w K mg base "letters_of" 2 ["poly"] spLetters) (c : Cal P w K mg base "free_in" (N + 3) ["saying"] (spFree N)) : Cal P w K mg base "free_in" (N + 4) ["saying"] (spFree (N + 1)) := by
  refine D.ok scFreeIn (fun vs H Q E h => ?_) (fun f cdv A out s H vs Q E hr h => ?_)
  · obtain ⟨a, v, s, rfl, _⟩ := h; rfl
  obtain ⟨a, v, t, rfl, hd, ho, hN, q⟩ := h
  obtain ⟨lp, hlp, hls⟩ := cs.ltr
  refine ⟨_, (pss_cons (ps_set (i := 1) scFreeIn.nd rfl (Or.inl rfl) (pe_ix (r := rIxT K) ix_tup (pv 0) pe_int (fun _ _ => rfl)))
    (pss_cons (ps_if (pt_cmpR op_in_seq (pv 1) (pe_tup (pa_cons pe_str (pa_cons pe_str pa_nil))) (by rfl)) (pss_one (ps_ret (pe_tup pa_nil))) pss_nil)
    (pss_cons (ps_if (pt_cmpR op_eq (pv 1) pe_str (nomark _)) (pss_one (ps_ret (pe_cal c hr (by omega) (by rfl) (pa_cons (pe_ix (r := rIxT K) ix_tup (pv 0) pe_int (fun _ _ => rfl)) pa_nil)))) pss_nil)
    (pss_cons (ps_if (pt_cmpR op_eq (pv 1) pe_str (nomark _)) (pss_one (ps_ret (pe_tup (pa_cons (pe_ix (r := rIxT K) ix_tup (pv 0) pe_int (fun _ _ => rfl)) pa_nil)))) pss_nil)
    (pss_cons (ps_if (pt_cmpR op_in_seq (pv 1) (pe_tup (pa_cons pe_str (pa_cons pe_str pa_nil))) (by rfl)) (pss_cons (ps_asg (pe_tup (pa_cons (pe_cal c hr (by omega) (by rfl) (pa_cons (pe_ix (r := rIxT K) ix_tup (pv 0) pe_int (fun _ _ => rfl)) pa_nil)) (pa_cons (pe_cal c hr (by omega) (by rfl) (pa_cons (pe_ix (r := rIxT K) ix_tup (pv 0) pe_int (fun _ _ => rfl)) pa_nil)) pa_nil))) (pg_tup rfl (pgs_cons (pg_name (i := 2) scFreeIn.nd rfl (Or.inr rfl)) (pgs_cons (pg_name (i := 3) scFreeIn.nd rfl (Or.inr rfl)) pgs_nil)))) (pss_one (ps_ret (pe_callTy (T := "tuple") call_tuple_of (by rfl) nb.tup (by decide +kernel) (pa_cons (pe_lc (own := [("letter", 4)]) (g := gName 4) (tt := _) rfl scFreeIn.nd (pi_tup (pe_glob (v := .ref lp) (by rfl) hlp rfl)) (blkOk_by (N := ["saying", "word", "one", "other", "letter"]) (sc := defScope sFreeIn) (by decide +kernel)) (fun _ _ _ _ _ => pg_name (i := 4) scFreeIn.nd rfl (Or.inl rfl)) (fun _ _ _ _ _ => pts_one (PW.pt (pw_or (pt_cmpR (r := rIn K false) op_in_seq (pv 4) (pv 2) (by rfl)) (pw_or1 (pt_cmpR (r := rIn K false) op_in_seq (pv 4) (pv 3) (by rfl)))))) (fun _ _ _ _ _ => pv 4)) pa_nil))))) pss_nil)
    (pss_cons (ps_if (pt_cmpR op_in_seq (pv 1) (pe_tup (pa_cons pe_str (pa_cons pe_str pa_nil))) (by rfl)) (pss_one (ps_ret (pe_callTy (T := "tuple") call_tuple_of (by rfl) nb.tup (by decide +kernel) (pa_cons (pe_lc (own := [("letter", 4)]) (g := gName 4) (tt := _) rfl scFreeIn.nd (pi_tup (pe_cal c hr (by omega) (by rfl) (pa_cons (pe_ix (r := rIxT K) ix_tup (pv 0) pe_int (fun _ _ => rfl)) pa_nil))) (blkOk_by (N := ["saying", "word", "one", "other", "letter"]) (sc := defScope sFreeIn) (by decide +kernel)) (fun _ _ _ _ _ => pg_name (i := 4) scFreeIn.nd rfl (Or.inl rfl)) (fun _ _ _ _ _ => pts_one (pt_cmpR op_ne (pv 4) (pe_ix (r := rIxT K) ix_tup (pv 0) pe_int (fun _ _ => rfl)) (nomark _))) (fun _ _ _ _ _ => pv 4)) pa_nil)))) pss_nil)
    (pss_one (ps_ret (pe_cal cL hr (by omega) (by rfl) (pa_cons (pe_ix (r := rIxT K) ix_tup (pv 0) pe_int (fun _ _ => rfl)) pa_nil)))))))))), ?_⟩
  walk_at "rd"
  cases t with
  | tt =>
    refine ⟨v, rfl, ix_at (n := 0) hd rfl fun x hx => ?_⟩
    cases hx
    exact ⟨.str _, rfl, in_new (l := ["true", "false"]) rfl (by decide) fun H2 s2 => iteT ⟨sz (by decide), fun p np => q p _ (s2.trans (same_new np)) upd_same⟩⟩
  | ff =>
    refine ⟨v, rfl, ix_at (n := 0) hd rfl fun x hx => ?_⟩
    cases hx
    exact ⟨.str _, rfl, in_new (l := ["true", "false"]) rfl (by decide) fun H2 s2 => iteT ⟨sz (by decide), fun p np => q p _ (s2.trans (same_new np)) upd_same⟩⟩
  | nn u =>
    rw [depth_nn] at hN
    refine ⟨v, rfl, ix_at (n := 0) hd rfl fun x hx => ?_⟩
    cases hx
    exact ⟨.str _, rfl, in_new (l := ["true", "false"]) rfl (by decide) fun H2 s2 => iteF ⟨.str _, rfl, rfl, _, rfl, iteT ⟨v, rfl, ix_at (n := 1) (hd.same s2) rfl fun x hx => ⟨a, x, u, rfl, hx, ho, by omega, fun p H3 s3 h3 => q p H3 (s2.trans s3) h3⟩⟩⟩⟩
  | bo b u u2 =>
    rw [depth_bo] at hN
    refine ⟨v, rfl, ix_at (n := 0) hd rfl fun x hx => ?_⟩
    cases hx
    cases b with
    | true =>
      refine ⟨.str _, rfl, in_new (l := ["true", "false"]) rfl (by decide) fun H2 s2 => iteF ⟨.str _, rfl, rfl, _, rfl, iteF ⟨.str _, rfl, rfl, _, rfl, iteF ⟨.str _, rfl, in_new (l := ["both", "either"]) rfl (by decide) fun H4 s4 => iteT ?_⟩⟩⟩⟩
      have s4 := s2.trans s4
      refine ⟨v, rfl, ix_at (n := 1) (hd.same s4) rfl fun x hx => ⟨a, x, u, rfl, hx, ho.1, by omega, fun p1 H5 s5 h5 => ⟨v, rfl, ix_at (n := 2) (hd.same (s4.trans s5)) rfl fun y hy => ⟨a, y, u2, rfl, hy, ho.2, by omega, fun p2 H6 s6 h6 => ⟨sz (by simp), fun t nt => ⟨t, _, rfl, SqT.of upd_same, rfl, _, _, rfl, _, _, rfl, rfl, ?_⟩⟩⟩⟩⟩⟩
      have s7 := same_new (o := .tup [.ref p1, .ref p2]) nt
      have h5 := s7 _ _ (s6 _ _ h5)
      have h6 := s7 _ _ h6
      have sA := ((s4.trans s5).trans s6).trans s7
      refine lc_filt (l := ["x", "y"]) (fun l => decide (l ∈ u.frees) || decide (l ∈ u2.frees)) (fun R hR => ⟨lp, rfl, ⟨_, hls _⟩, hR lp _ (Same.refl _) fun H2 _ => hls H2⟩) (by decide) (fun x => wipe1 _ 4 x) (fun x H7 hx s8 R hR => ?_) (fun x H7 R hR => ⟨_, rfl, hR⟩) fun D H8 s8 nD h8 => ?_
      · refine ⟨.str x, rfl, .ref p1, rfl, p1, _, rfl, .inr (SqT.of (s8 _ _ h5)), rfl, flat_all _, _, rfl, ?_⟩
        rw [if_neg Bool.false_ne_true, inS]
        cases h : decide (x ∈ u.frees) with
        | true =>
          have := hR H7 (Same.refl _)
          rw [h, Bool.true_or] at this
          exact iteT this
        | false =>
          refine iteF ⟨.str x, rfl, .ref p2, rfl, p2, _, rfl, .inr (SqT.of (s8 _ _ h6)), rfl, flat_all _, _, rfl, ?_⟩
          rw [if_neg Bool.false_ne_true, inS]
          have := hR H7 (Same.refl _)
          rw [h, Bool.false_or] at this
          exact this
      · refine ⟨D, _, rfl, .inl ⟨SqL.of h8, fun z nz => q z _ (sA.trans (s8.trans (same_new nz))) ?_⟩⟩
        rw [upd_same, frees_bo true]
    | false =>
      refine ⟨.str _, rfl, in_new (l := ["true", "false"]) rfl (by decide) fun H2 s2 => iteF ⟨.str _, rfl, rfl, _, rfl, iteF ⟨.str _, rfl, rfl, _, rfl, iteF ⟨.str _, rfl, in_new (l := ["both", "either"]) rfl (by decide) fun H4 s4 => iteT ?_⟩⟩⟩⟩
      have s4 := s2.trans s4
      refine ⟨v, rfl, ix_at (n := 1) (hd.same s4) rfl fun x hx => ⟨a, x, u, rfl, hx, ho.1, by omega, fun p1 H5 s5 h5 => ⟨v, rfl, ix_at (n := 2) (hd.same (s4.trans s5)) rfl fun y hy => ⟨a, y, u2, rfl, hy, ho.2, by omega, fun p2 H6 s6 h6 => ⟨sz (by simp), fun t nt => ⟨t, _, rfl, SqT.of upd_same, rfl, _, _, rfl, _, _, rfl, rfl, ?_⟩⟩⟩⟩⟩⟩
      have s7 := same_new (o := .tup [.ref p1, .ref p2]) nt
      have h5 := s7 _ _ (s6 _ _ h5)
      have h6 := s7 _ _ h6
      have sA := ((s4.trans s5).trans s6).trans s7
      refine lc_filt (l := ["x", "y"]) (fun l => decide (l ∈ u.frees) || decide (l ∈ u2.frees)) (fun R hR => ⟨lp, rfl, ⟨_, hls _⟩, hR lp _ (Same.refl _) fun H2 _ => hls H2⟩) (by decide) (fun x => wipe1 _ 4 x) (fun x H7 hx s8 R hR => ?_) (fun x H7 R hR => ⟨_, rfl, hR⟩) fun D H8 s8 nD h8 => ?_
      · refine ⟨.str x, rfl, .ref p1, rfl, p1, _, rfl, .inr (SqT.of (s8 _ _ h5)), rfl, flat_all _, _, rfl, ?_⟩
        rw [if_neg Bool.false_ne_true, inS]
        cases h : decide (x ∈ u.frees) with
        | true =>
          have := hR H7 (Same.refl _)
          rw [h, Bool.true_or] at this
          exact iteT this
        | false =>
          refine iteF ⟨.str x, rfl, .ref p2, rfl, p2, _, rfl, .inr (SqT.of (s8 _ _ h6)), rfl, flat_all _, _, rfl, ?_⟩
          rw [if_neg Bool.false_ne_true, inS]
          have := hR H7 (Same.refl _)
          rw [h, Bool.false_or] at this
          exact this
      · refine ⟨D, _, rfl, .inl ⟨SqL.of h8, fun z nz => q z _ (sA.trans (s8.trans (same_new nz))) ?_⟩⟩
        rw [upd_same, frees_bo false]
  | qu al x1 u =>
    rw [depth_qu] at hN
    refine ⟨v, rfl, ix_at (n := 0) hd rfl fun x hx => ?_⟩
    cases hx
    cases al with
    | true =>
      refine ⟨.str _, rfl, in_new (l := ["true", "false"]) rfl (by decide) fun H2 s2 => iteF ⟨.str _, rfl, rfl, _, rfl, iteF ⟨.str _, rfl, rfl, _, rfl, iteF ⟨.str _, rfl, in_new (l := ["both", "either"]) rfl (by decide) fun H3 s3 => iteF ⟨.str _, rfl, in_new (l := ["all", "some"]) rfl (by decide) fun H4 s4 => iteT ?_⟩⟩⟩⟩⟩
      have s4 := (s2.trans s3).trans s4
      refine lc_filt (l := u.frees) (fun l => !decide (V.str l = V.str (if x1 then "x" else "y"))) (fun R hR => ⟨v, rfl, ix_at (n := 2) (hd.same s4) rfl fun x hx => ⟨a, x, u, rfl, hx, ho, by omega, fun p1 H5 s5 h5 => ⟨p1, rfl, ⟨_, SqT.of h5⟩, hR p1 H5 s5 fun H6 s6 => SqT.of (s6 _ _ h5)⟩⟩⟩) (Nat.le_trans (frees_len u) (by decide)) (fun x => wipe1 _ 4 x) (fun x H7 hx s8 R hR => ?_) (fun x H7 R hR => ⟨_, rfl, hR⟩) fun D H8 s8 nD h8 => ?_
      · walk_at "rd"
        refine ⟨.str x, rfl, v, rfl, ix_at (n := 1) ((hd.same s4).same s8) rfl fun y hy => ?_⟩
        cases hy
        exact ⟨rfl, _, rfl, hR H7 (Same.refl _)⟩
      · refine ⟨D, _, rfl, .inl ⟨SqL.of h8, fun z nz => q z _ (s4.trans (s8.trans (same_new nz))) ?_⟩⟩
        rw [upd_same, frees_qu true]
    | false =>
      refine ⟨.str _, rfl, in_new (l := ["true", "false"]) rfl (by decide) fun H2 s2 => iteF ⟨.str _, rfl, rfl, _, rfl, iteF ⟨.str _, rfl, rfl, _, rfl, iteF ⟨.str _, rfl, in_new (l := ["both", "either"]) rfl (by decide) fun H3 s3 => iteF ⟨.str _, rfl, in_new (l := ["all", "some"]) rfl (by decide) fun H4 s4 => iteT ?_⟩⟩⟩⟩⟩
      have s4 := (s2.trans s3).trans s4
      refine lc_filt (l := u.frees) (fun l => !decide (V.str l = V.str (if x1 then "x" else "y"))) (fun R hR => ⟨v, rfl, ix_at (n := 2) (hd.same s4) rfl fun x hx => ⟨a, x, u, rfl, hx, ho, by omega, fun p1 H5 s5 h5 => ⟨p1, rfl, ⟨_, SqT.of h5⟩, hR p1 H5 s5 fun H6 s6 => SqT.of (s6 _ _ h5)⟩⟩⟩) (Nat.le_trans (frees_len u) (by decide)) (fun x => wipe1 _ 4 x) (fun x H7 hx s8 R hR => ?_) (fun x H7 R hR => ⟨_, rfl, hR⟩) fun D H8 s8 nD h8 => ?_
      · walk_at "rd"
        refine ⟨.str x, rfl, v, rfl, ix_at (n := 1) ((hd.same s4).same s8) rfl fun y hy => ?_⟩
        cases hy
        exact ⟨rfl, _, rfl, hR H7 (Same.refl _)⟩
      · refine ⟨D, _, rfl, .inl ⟨SqL.of h8, fun z nz => q z _ (s4.trans (s8.trans (same_new nz))) ?_⟩⟩
        rw [upd_same, frees_qu false]
  | re wd p =>
    refine ⟨v, rfl, ix_at (n := 0) hd rfl fun x hx => ?_⟩
    cases hx
    refine ⟨.str _, rfl, in_new (l := ["true", "false"]) rfl (by decide) fun H2 s2 => ?_⟩
    rw [rel_word ho.1 _ (by decide)]
    refine iteF ⟨.str _, rfl, rfl, _, rfl, ?_⟩
    rw [rel_not ho.1 (by decide)]
    refine iteF ⟨.str _, rfl, rfl, _, rfl, ?_⟩
    rw [show decide (V.str wd = V.str "form") = false from decide_eq_false fun e => by injection e with e; subst e; exact absurd ho.1 (by decide)]
    refine iteF ⟨.str _, rfl, in_new (l := ["both", "either"]) rfl (by decide) fun H3 s3 => ?_⟩
    rw [rel_word ho.1 _ (by decide)]
    refine iteF ⟨.str _, rfl, in_new (l := ["all", "some"]) rfl (by decide) fun H4 s4 => ?_⟩
    rw [rel_word ho.1 _ (by decide)]
    have s24 := (s2.trans s3).trans s4
    exact iteF ⟨v, rfl, ix_at (n := 1) (hd.same s24) rfl fun x hx => ⟨a, x, p, rfl, hx, ho.2, fun z H5 s5 h5 => q z H5 (s24.trans s5) h5⟩⟩
theorem free_all (D : Def K mg "free_in" sFreeIn ["saying"]) (nb : Nb mg) (cs : Cs K w mg) (cL : Cal P w K mg base "letters_of" 2 ["poly"] spLetters) : ∀ N : Nat, Cal P w K mg base "free_in" (N + 3) ["saying"] (spFree N)
  | 0 => by
    have no : ∀ vs H Q E, ¬ spFree 0 vs H Q E := fun vs H Q E h => by
      obtain ⟨a, v, s, _, _, _, h1, _⟩ := h
      have := s.depth_pos
      omega
    obtain ⟨f, fd, F, m, b⟩ := D
    exact ⟨f, fd, ⟨fun vs H Q E h => absurd h (no vs H Q E), fun A out s H g us vs Q E _ _ _ _ h => absurd h (no vs H Q E)⟩, m, F.kp, b, fdAt F⟩
  | N + 1 => free_step D nb cs cL (free_all D nb cs cL N)
theorem scFreeLetters : FnScope ["saying"] ["saying"] (defScope sFreeLetters) := ⟨rfl, rfl, rfl, by decide +kernel, rfl, by decide +kernel, by decide +kernel⟩
theorem ok_freeLetters (D : Def K mg "free_letters" sFreeLetters ["saying"]) (nb : Nb mg) (cC : Cal P w K mg base "check_saying" 17 ["saying"] spCheck) (cD : Cal P w K mg base "free_in" 13 ["saying"] (spFree 10)) : Cal P w K mg base "free_letters" 18 ["saying"] spFreeLetters := by
  refine D.ok scFreeLetters (fun vs H Q E h => ?_) (fun f cdv A out s H vs Q E hr h => ?_)
  · obtain ⟨a, v, s, n, rfl, _⟩ := h; rfl
  obtain ⟨a, v, t, n, rfl, ha, hd, hs, hsay, h10', hp, q⟩ := h
  refine ⟨_, (pss_cons (ps_expr (pe_cal cC hr (by decide) (by rfl) (pa_cons (pv 0) pa_nil)))
    (pss_one (ps_ret (pe_cal cD hr (by decide) (by rfl) (pa_cons (pv 0) pa_nil))))), ?_⟩
  walk_at "rd"
  exact ⟨v, rfl, a, v, t, n, rfl, ha, hd, hs, hsay, h10', hp, fun _ H1 s1 => ⟨v, rfl, a, v, t, rfl, hd.same s1, (say_some hsay).2, h10', fun p H2 s2 h2 => q p H2 (s1.trans s2) h2⟩⟩
end
end K43

set_option Elab.async false
set_option linter.all false
set_option maxRecDepth 100000
set_option maxHeartbeats 8000000
local macro_rules | `(tactic| walk_at "rd") => `(tactic| dsimp only [Evl.tCut, L2.tSeq, L2.tNext, L2.tRet, L2.tRetN, L2.tAsg, L2.gName, L2.tIfS, L2.tDrop, L2.tCons, L2.tNil, L2.tC, L2.tVar, L2.tCB, L2.tAndV, L2.tOrV, L2.tNotV, L2.tB, L2.tTest, L2.tOp, L2.tUn, L2.tNot, L2.tAnd, L2.tOr, L2.tIf, L2.tCall, L2.tTup, L2.tLst, L2.tNotT, L2.tYes, L2.gTup, L2.gCons, L2.gNil, L2.gSub, L2.tBM0, L2.tBM, L2.tWhile, L2.tFor, L2.iRng1, L2.iRng2, L2.tAugS, Tw.iEnumT, L2.tCKw, L2.tAug, L2.ipI, RT.iRevA, L2.tPar, L2.tPar3, L2.tSl, L2.tNoPart, L2.tPart, Tw.tRevT, Tw.tFput])
namespace K43
open PySem PySem.Spec PyProof.Rows L2 Tw
/-! the law's own looks -/
def lrowB (d : PyData) : Bool := rowB d && decide (lenD d ≤ 5)
theorem whole_split (ds : List PyData) : (ds.map wholeB).all id = ((ds.map isIntD).all id && !(ds.map isBoolD).any id) := by
  induction ds with
  | nil => rfl
  | cons d ds ih =>
    show (wholeB d && (ds.map wholeB).all id) = ((isIntD d && (ds.map isIntD).all id) && !(isBoolD d || (ds.map isBoolD).any id))
    rw [ih]
    unfold wholeB
    cases isIntD d <;> cases isBoolD d <;> cases (ds.map isIntD).all id <;> cases (ds.map isBoolD).any id <;> rfl
theorem rowB_split (ds : List PyData) : rowB (.tuple ds) = (((ds.map isIntD).all id && !(ds.map isBoolD).any id) && lastD ds (.int 0)) := by
  show ((ds.map wholeB).all id && lastD ds (.int 0)) = _
  rw [whole_split]
theorem small_split (ds : List PyData) : smallB (.tuple ds) = (((ds.map lrowB).all id && decide (ds.length ≤ 5)) && lastD ds (.tuple [])) := by
  have hw : decide (widD (.tuple ds) ≤ 5) = ds.all fun r => decide (lenD r ≤ 5) := by
    have key : ∀ l : List PyData, (l.foldr (fun r m => max (lenD r) m) 0 ≤ 5) ↔ ∀ r ∈ l, lenD r ≤ 5 := fun l => by
      induction l with
      | nil => simp
      | cons r l ih =>
        rw [List.foldr_cons]
        constructor
        · intro h e he
          rcases List.mem_cons.mp he with rfl | he
          · omega
          · exact ih.mp (by omega) e he
        · intro h
          have h1 := h r (by simp)
          have h2 := ih.mpr fun e he => h e (by simp [he])
          omega
    rw [Bool.eq_iff_iff, decide_eq_true_eq, List.all_eq_true]
    exact (key ds).trans ⟨fun h r hr => decide_eq_true (h r hr), fun h r hr => of_decide_eq_true (h r hr)⟩
  have ha : (ds.map lrowB).all id = ((ds.map rowB).all id && ds.all fun r => decide (lenD r ≤ 5)) := by
    rw [Bool.eq_iff_iff, Bool.and_eq_true, List.all_eq_true, List.all_eq_true, List.all_eq_true]
    refine ⟨fun h => ⟨fun b hb => ?_, fun r hr => ?_⟩, fun h b hb => ?_⟩
    · obtain ⟨d, hd, rfl⟩ := List.mem_map.mp hb
      have := h _ (List.mem_map_of_mem hd)
      unfold lrowB at this
      simp only [id] at this ⊢
      rw [Bool.and_eq_true] at this
      exact this.1
    · have := h _ (List.mem_map_of_mem hr)
      unfold lrowB at this
      simp only [id] at this
      rw [Bool.and_eq_true] at this
      exact this.2
    · obtain ⟨d, hd, rfl⟩ := List.mem_map.mp hb
      have h1 := h.1 _ (List.mem_map_of_mem hd)
      have h2 := h.2 d hd
      unfold lrowB
      simp only [id] at h1 ⊢
      rw [h1, h2]
      rfl
  unfold smallB polyB
  rw [hw, ha]
  show (((ds.map rowB).all id && lastD ds (.tuple [])) && decide (ds.length ≤ 5) && _) = _
  cases (ds.map rowB).all id <;> cases lastD ds (.tuple []) <;> cases decide (ds.length ≤ 5) <;> cases (ds.all fun r => decide (lenD r ≤ 5)) <;> rfl
theorem small_no {d : PyData} (h : isTupD d = false) : smallB d = false ∧ lrowB d = false := by
  cases d <;> first | exact ⟨rfl, rfl⟩ | cases h
section
variable {P : Program} {w : World} {K : PySem.W.Frag} {mg : Str → Option Value} {base : Heap}
theorem scIsRow : FnScope ["_law_thing", "_law_each"] ["_law_thing"] (defScope sIsRow) := ⟨rfl, rfl, rfl, by decide +kernel, rfl, by decide +kernel, by decide +kernel⟩
theorem ok_isRow (D : Def K mg "_law_is_row" sIsRow ["_law_thing"]) (nb : Nb mg) : Cal P w K mg base "_law_is_row" 1 ["_law_thing"] (spB lrowB) := by
  refine D.ok scIsRow (fun vs H Q E h => ?_) (fun f cdv A out s H vs Q E hr h => ?_)
  · obtain ⟨a, v, d, m, rfl, _⟩ := h; rfl
  obtain ⟨a, v, d, m, rfl, hd, hs, q⟩ := h
  refine ⟨_, (pss_cons (ps_if (PW.pt (pw_or (pt_not (pt_val (pe_callB (id := "isinstance") (r := rIsi K) call_isi (by rfl) nb.isi (by decide +kernel) (pa_cons (pv 0) (pa_cons (pe_bltn (v := .ty "tuple") (by rfl) nb.tup (by decide +kernel) rfl) pa_nil))))) (pw_or (pt_cmpR op_gt (pe_callB (id := "len") (r := rLn K) call_len_seq (by rfl) nb.len PySem.boot_len (pa_cons (pv 0) pa_nil)) pe_int (nomark _)) (pw_or1 (pt_not (pt_val (pe_callB (id := "all") (r := rAll K) (cr_all rfl) (by rfl) nb.all (by decide +kernel) (pa_cons (pe_lc (own := [("_law_each", 1)]) (g := gName 1) (tt := tYes) rfl scIsRow.nd (pi_tup (pv 0)) (blkOk_by (N := ["_law_thing", "_law_each"]) (sc := defScope sIsRow) (by decide +kernel)) (fun _ _ _ _ _ => pg_name (i := 1) scIsRow.nd rfl (Or.inl rfl)) (fun _ _ _ _ _ => pts_nil) (fun _ _ _ _ _ => (pe_callB (id := "isinstance") (r := rIsi K) call_isi (by rfl) nb.isi (by decide +kernel) (pa_cons (pv 1) (pa_cons (pe_bltn (v := .ty "int") (by rfl) nb.int (by decide +kernel) rfl) pa_nil))))) pa_nil)))))))) (pss_one (ps_ret pe_bl)) pss_nil)
    (pss_one (ps_ret (pe_and (pe_not (pe_callB (id := "any") (r := rAny K) (cr_any rfl) (by rfl) nb.any (by decide +kernel) (pa_cons (pe_lc (own := [("_law_each", 1)]) (g := gName 1) (tt := tYes) rfl scIsRow.nd (pi_tup (pv 0)) (blkOk_by (N := ["_law_thing", "_law_each"]) (sc := defScope sIsRow) (by decide +kernel)) (fun _ _ _ _ _ => pg_name (i := 1) scIsRow.nd rfl (Or.inl rfl)) (fun _ _ _ _ _ => pts_nil) (fun _ _ _ _ _ => (pe_callB (id := "isinstance") (r := rIsi K) call_isi (by rfl) nb.isi (by decide +kernel) (pa_cons (pv 1) (pa_cons (pe_bltn (v := .ty "bool") (by rfl) nb.bool (by decide +kernel) rfl) pa_nil))))) pa_nil))) (pe_one (pe_or (pe_cmpR (op_eqT0 hr.units) (pv 0) (pe_tup pa_nil) (nomark _)) (pe_one (pe_cmpR op_ne (pe_ix (r := rIxT K) ix_tup (pv 0) (pe_un un_neg pe_int) (fun _ _ => rfl)) pe_int (nomark _))))))))), ?_⟩
  walk_at "rd"
  refine ⟨v, rfl, isi hd (isi_tup d) ⟨isTupD d, rfl, ?_⟩⟩
  cases ht : isTupD d with
  | false =>
    have q' := q H (Same.refl H)
    rw [(small_no ht).2] at q'
    exact iteT (iteT q')
  | true =>
    obtain ⟨p, xs, ds, rfl, rfl, np, hp, hx⟩ := tup_of hd ht
    have hn : xs.length < 100000 := by rw [hx.len]; have := hs.len; omega
    have q1 : ∀ H', Same H H' → Q (.bl (rowB (.tuple ds) && decide (ds.length ≤ 5))) H' := q
    rw [rowB_split] at q1
    refine iteF ⟨.ref p, rfl, p, xs, rfl, .inr (SqT.of hp), _, _, rfl, rfl, _, rfl, ?_⟩
    rw [hx.len]
    refine ite2 (fun z => ?_) (fun z => ?_)
    · have z := of_decide_eq_true z
      rw [decide_eq_false (by omega : ¬ ds.length ≤ 5), Bool.and_false] at q1
      exact iteT (q1 H (Same.refl H))
    · have z : ¬ ((ds.length : Int) > 5) := fun y => z (decide_eq_true y)
      rw [decide_eq_true (by omega : ds.length ≤ 5), Bool.and_true] at q1
      refine lc_mapT (fun d => V.bl (isIntD d)) rfl hp hx hn (wipe1 _ 1) (fun x d H1 hm s1 dx R k => ?_) fun L H1 s1 nL hL => ?_
      · exact ⟨x, rfl, isi dx (isi_int d) (k H1 (Same.refl _))⟩
      refine ⟨L, ds.map isIntD, rfl, SqL.of (by rw [List.map_map]; exact hL), _, rfl, ?_⟩
      cases hi : (ds.map isIntD).all id with
      | false => rw [hi] at q1; exact iteT (q1 H1 s1)
      | true =>
        rw [hi] at q1
        refine iteF (lc_mapT (fun d => V.bl (isBoolD d)) rfl (s1 _ _ hp) (hx.same s1) hn (wipe1 _ 1) (fun x d H2 hm s2 dx R k => ?_) fun L2 H2 s2 nL2 hL2 => ?_)
        · exact ⟨x, rfl, isi dx (isi_bool d) (k H2 (Same.refl _))⟩
        have s12 := s1.trans s2
        refine ⟨L2, ds.map isBoolD, rfl, SqL.of (by rw [List.map_map]; exact hL2), _, rfl, ?_⟩
        cases hb : (ds.map isBoolD).any id with
        | true => rw [hb] at q1; exact ⟨_, rfl, iteF (q1 H2 s12)⟩
        | false =>
          rw [hb] at q1
          refine ⟨_, rfl, iteT ⟨.ref p, rfl, sz (by decide), fun t nt => ?_⟩⟩
          have s3 := same_new (o := .tup []) nt
          refine ⟨p, t, xs, [], rfl, rfl, SqT.of ((s12.trans s3) _ _ hp), SqT.of upd_same, rfl, ?_⟩
          rw [if_neg Bool.false_ne_true, empty_iff hx]
          refine ⟨_, rfl, ?_⟩
          have s13 := s12.trans s3
          cases hds : ds with
          | nil => subst hds; exact iteT (q1 _ s13)
          | cons d0 dr =>
            have ne : ds ≠ [] := by rw [hds]; simp
            have hw : (ds.map wholeB).all id = true := by rw [whole_split, hi, hb]; rfl
            refine iteF ⟨.ref p, rfl, 1, rfl, end_int (hx.same s13) (s13 _ _ hp) ne hw ?_⟩
            have := q1 _ s13
            rw [Bool.true_and, Bool.not_false, Bool.true_and] at this
            exact this
theorem scIsPoly : FnScope ["_law_thing", "_law_each"] ["_law_thing"] (defScope sIsPoly) := ⟨rfl, rfl, rfl, by decide +kernel, rfl, by decide +kernel, by decide +kernel⟩
theorem ok_isPoly (D : Def K mg "_law_is_poly" sIsPoly ["_law_thing"]) (nb : Nb mg) (c1 : Cal P w K mg base "_law_is_row" 1 ["_law_thing"] (spB lrowB)) : Cal P w K mg base "_law_is_poly" 2 ["_law_thing"] (spB smallB) := by
  refine D.ok scIsPoly (fun vs H Q E h => ?_) (fun f cdv A out s H vs Q E hr h => ?_)
  · obtain ⟨a, v, d, m, rfl, _⟩ := h; rfl
  obtain ⟨a, v, d, m, rfl, hd, hs, q⟩ := h
  refine ⟨_, (pss_cons (ps_if (PW.pt (pw_or (pt_not (pt_val (pe_callB (id := "isinstance") (r := rIsi K) call_isi (by rfl) nb.isi (by decide +kernel) (pa_cons (pv 0) (pa_cons (pe_bltn (v := .ty "tuple") (by rfl) nb.tup (by decide +kernel) rfl) pa_nil))))) (pw_or (pt_cmpR op_gt (pe_callB (id := "len") (r := rLn K) call_len_seq (by rfl) nb.len PySem.boot_len (pa_cons (pv 0) pa_nil)) pe_int (nomark _)) (pw_or1 (pt_not (pt_val (pe_callB (id := "all") (r := rAll K) (cr_all rfl) (by rfl) nb.all (by decide +kernel) (pa_cons (pe_lc (own := [("_law_each", 1)]) (g := gName 1) (tt := tYes) rfl scIsPoly.nd (pi_tup (pv 0)) (blkOk_by (N := ["_law_thing", "_law_each"]) (sc := defScope sIsPoly) (by decide +kernel)) (fun _ _ _ _ _ => pg_name (i := 1) scIsPoly.nd rfl (Or.inl rfl)) (fun _ _ _ _ _ => pts_nil) (fun _ _ _ _ _ => (pe_cal c1 hr (by decide) (by rfl) (pa_cons (pv 1) pa_nil)))) pa_nil)))))))) (pss_one (ps_ret pe_bl)) pss_nil)
    (pss_one (ps_ret (pe_or (pe_cmpR (op_eqT0 hr.units) (pv 0) (pe_tup pa_nil) (nomark _)) (pe_one (pe_cmpR (op_neT0 hr.units) (pe_ix (r := rIxT K) ix_tup (pv 0) (pe_un un_neg pe_int) (fun _ _ => rfl)) (pe_tup pa_nil) (nomark _))))))), ?_⟩
  walk_at "rd"
  refine ⟨v, rfl, isi hd (isi_tup d) ⟨isTupD d, rfl, ?_⟩⟩
  cases ht : isTupD d with
  | false =>
    have q' := q H (Same.refl H)
    rw [(small_no ht).1] at q'
    exact iteT (iteT q')
  | true =>
    obtain ⟨p, xs, ds, rfl, rfl, np, hp, hx⟩ := tup_of hd ht
    have hn : xs.length < 100000 := by rw [hx.len]; have := hs.len; omega
    have q1 : ∀ H', Same H H' → Q (.bl (smallB (.tuple ds))) H' := q
    rw [small_split] at q1
    refine iteF ⟨.ref p, rfl, p, xs, rfl, .inr (SqT.of hp), _, _, rfl, rfl, _, rfl, ?_⟩
    rw [hx.len]
    refine ite2 (fun z => ?_) (fun z => ?_)
    · have z := of_decide_eq_true z
      rw [decide_eq_false (by omega : ¬ ds.length ≤ 5), Bool.and_false] at q1
      exact iteT (q1 H (Same.refl H))
    · have z : ¬ ((ds.length : Int) > 5) := fun y => z (decide_eq_true y)
      rw [decide_eq_true (by omega : ds.length ≤ 5), Bool.and_true] at q1
      refine lc_mapT (fun d => V.bl (lrowB d)) rfl hp hx hn (wipe1 _ 1) (fun x d H1 hm s1 dx R k => ?_) fun L H1 s1 nL hL => ?_
      · exact ⟨x, rfl, a, x, d, _, rfl, dx, (hs.mem hm), k⟩
      refine ⟨L, ds.map lrowB, rfl, SqL.of (by rw [List.map_map]; exact hL), _, rfl, ?_⟩
      cases hi : (ds.map lrowB).all id with
      | false => rw [hi] at q1; exact iteT (q1 H1 s1)
      | true =>
        rw [hi] at q1
        refine iteF ⟨.ref p, rfl, sz (by decide), fun t nt => ?_⟩
        have s3 := same_new (o := .tup []) nt
        refine ⟨p, t, xs, [], rfl, rfl, SqT.of ((s1.trans s3) _ _ hp), SqT.of upd_same, rfl, ?_⟩
        rw [if_neg Bool.false_ne_true, empty_iff hx]
        refine ⟨_, rfl, ?_⟩
        have s13 := s1.trans s3
        cases hds : ds with
        | nil => subst hds; exact iteT (q1 _ s13)
        | cons d0 dr =>
          have ne : ds ≠ [] := by rw [hds]; simp
          have hw : (ds.map rowB).all id = true := by
            rw [List.all_eq_true]
            intro b hb
            obtain ⟨d, hd1, rfl⟩ := List.mem_map.mp hb
            have := List.all_eq_true.mp hi _ (List.mem_map_of_mem hd1)
            unfold lrowB at this
            simp only [id] at this ⊢
            rw [Bool.and_eq_true] at this
            exact this.1
          refine iteF ⟨.ref p, rfl, 1, rfl, end_row (hx.same s13) (s13 _ _ hp) ne hw fun H' s4 => ?_⟩
          have := q1 _ (s13.trans s4)
          rw [Bool.true_and] at this
          exact this
end
end K43

set_option Elab.async false
set_option linter.all false
set_option maxRecDepth 100000
set_option maxHeartbeats 8000000
local macro_rules | `(tactic| walk_at "rd") => `(tactic| dsimp only [Evl.tCut, L2.tSeq, L2.tNext, L2.tRet, L2.tRetN, L2.tAsg, L2.gName, L2.tIfS, L2.tDrop, L2.tCons, L2.tNil, L2.tC, L2.tVar, L2.tCB, L2.tAndV, L2.tOrV, L2.tNotV, L2.tB, L2.tTest, L2.tOp, L2.tUn, L2.tNot, L2.tAnd, L2.tOr, L2.tIf, L2.tCall, L2.tTup, L2.tLst, L2.tNotT, L2.tYes, L2.gTup, L2.gCons, L2.gNil, L2.gSub, L2.tBM0, L2.tBM, L2.tWhile, L2.tFor, L2.iRng1, L2.iRng2, L2.tAugS, Tw.iEnumT, L2.tCKw, L2.tAug, L2.ipI, RT.iRevA, L2.tPar, L2.tPar3, L2.tSl, L2.tNoPart, L2.tPart, Tw.tRevT, Tw.tFput])
namespace K43
open PySem PySem.Spec PyProof.Rows L2 Tw
/-! how deep -/
def deepN (d : PyData) : Nat := match say d with
  | some s => s.depth
  | none => 0
theorem deep_none {d : PyData} (h : say d = none) : deepN d = 0 := by unfold deepN; rw [h]
theorem deep_some {d : PyData} {s : Say} (h : say d = some s) : deepN d = s.depth := by unfold deepN; rw [h]
def mx (ns : List Nat) : Nat := if 0 ∈ ns then 0 else 1 + ns.foldr max 0
theorem mx_zero {ns : List Nat} (h : 0 ∈ ns) : mx ns = 0 := if_pos h
theorem foldr_le {ns : List Nat} {m : Nat} (h : ∀ n ∈ ns, n ≤ m) : ns.foldr max 0 ≤ m := by
  induction ns with
  | nil => exact Nat.zero_le _
  | cons a l ih =>
    rw [List.foldr_cons]
    exact Nat.max_le.mpr ⟨h a (by simp), ih fun n hn => h n (by simp [hn])⟩
theorem le_foldr {ns : List Nat} {m : Nat} (h : m ∈ ns) : m ≤ ns.foldr max 0 := by
  induction ns with
  | nil => cases h
  | cons a l ih =>
    rw [List.foldr_cons]
    rcases List.mem_cons.mp h with rfl | h
    · exact Nat.le_max_left _ _
    · exact Nat.le_trans (ih h) (Nat.le_max_right _ _)
theorem mx_some {ds : List PyData} {m : Int} (z : 0 ∉ ds.map deepN) (h1 : m ∈ ds.map fun d => ((deepN d : Nat) : Int)) (h2 : ∀ y, y ∈ (ds.map fun d => ((deepN d : Nat) : Int)) → y ≤ m) : ((mx (ds.map deepN) : Nat) : Int) = 1 + m := by
  unfold mx
  rw [if_neg z]
  obtain ⟨d, hd, rfl⟩ := List.mem_map.mp h1
  have a := le_foldr (List.mem_map_of_mem (f := deepN) hd)
  have b := foldr_le (ns := ds.map deepN) (m := deepN d) fun n hn => by
    obtain ⟨e, he, rfl⟩ := List.mem_map.mp hn
    have := h2 _ (List.mem_map_of_mem he)
    omega
  omega
theorem in0 (ds : List PyData) : inV (.int 0) (ds.map fun d => V.int ((deepN d : Nat) : Int)) = decide (0 ∈ ds.map deepN) := by
  unfold inV
  rw [Bool.eq_iff_iff, List.any_eq_true, decide_eq_true_eq, List.mem_map]
  constructor
  · rintro ⟨v, hv, e⟩
    obtain ⟨d, hd, rfl⟩ := List.mem_map.mp hv
    refine ⟨d, hd, ?_⟩
    have e : (((deepN d : Nat) : Int) == 0) = true := e
    have := eq_of_beq e
    omega
  · rintro ⟨d, hd, e⟩
    refine ⟨_, List.mem_map_of_mem hd, ?_⟩
    show (((deepN d : Nat) : Int) == 0) = true
    rw [e]; rfl
theorem flat_deep (ds : List PyData) : (ds.map fun d => V.int ((deepN d : Nat) : Int)).all flatV = true := by
  induction ds with
  | nil => rfl
  | cons d l ih => rw [List.map_cons, List.all_cons, ih]; rfl
theorem mx1 (n : Nat) : mx [n] = if n = 0 then 0 else 1 + n := by
  unfold mx
  by_cases h : n = 0
  · subst h; rfl
  · rw [if_neg h, if_neg (by simp; omega)]
    simp
theorem mx2 (n m : Nat) : mx [n, m] = if n = 0 ∨ m = 0 then 0 else 1 + max n m := by
  unfold mx
  by_cases h : n = 0 ∨ m = 0
  · rw [if_pos h, if_pos (by simp; omega)]
  · rw [if_neg h, if_neg (by simp; omega)]
    simp
theorem deep_nn {d e : PyData} (h : say e = b1 .nn [say d]) : deepN e = mx ([d].map deepN) := by
  rw [List.map_cons, List.map_nil, mx1]
  cases hd : say d with
  | none => rw [hd] at h; rw [deep_none hd, deep_none h]; rfl
  | some s =>
    rw [hd] at h
    have := s.depth_pos
    rw [deep_some hd, deep_some (s := .nn s) h, if_neg (by omega)]
    rfl
theorem deep_q (al : Bool) {d e : PyData} {x : Bool} (h : say e = (say d).map (.qu al x)) : deepN e = mx ([d].map deepN) := by
  rw [List.map_cons, List.map_nil, mx1]
  cases hd : say d with
  | none => rw [hd] at h; rw [deep_none hd, deep_none h]; rfl
  | some s =>
    rw [hd] at h
    have := s.depth_pos
    rw [deep_some hd, deep_some (s := .qu al x s) h, if_neg (by omega)]
    rfl
theorem deep_bo {b : Bool} {d1 d2 e : PyData} (h : say e = b2 (.bo b) [say d1, say d2]) : deepN e = mx ([d1, d2].map deepN) := by
  rw [List.map_cons, List.map_cons, List.map_nil, mx2]
  cases h1 : say d1 with
  | none => rw [h1] at h; rw [deep_none h1, deep_none h, if_pos (.inl rfl)]
  | some s =>
    cases h2 : say d2 with
    | none => rw [h1, h2] at h; rw [deep_none h2, deep_none h, if_pos (.inr rfl)]
    | some t =>
      rw [h1, h2] at h
      have := s.depth_pos
      have := t.depth_pos
      rw [deep_some h1, deep_some h2, deep_some (s := .bo b s t) h, if_neg (by omega)]
      rfl
theorem neN {n m : Nat} (z : (!decide (V.int ((n : Nat) : Int) = V.int ((m : Nat) : Int))) = true) : n ≠ m := fun e => by
  subst e
  rw [decide_eq_true rfl] at z
  cases z
theorem eqN {n m : Nat} (z : ¬ (!decide (V.int ((n : Nat) : Int) = V.int ((m : Nat) : Int))) = true) : n = m := by
  refine Decidable.byContradiction fun ne => z ?_
  rw [decide_eq_false fun e => ne (by injection e with e; omega)]
  rfl
theorem bq_no {al : Bool} {l d : PyData} {rs : List (Option Say)} (h : letOf l = none) : bq al [l, d] rs = none := by
  rcases rs with _ | ⟨x, _ | ⟨o, _ | _⟩⟩ <;> simp [bq, h]
theorem let_str {l : PyData} (h : isStrD l = false) : letOf l = none := by
  cases l <;> first | rfl | cases h
theorem let_out {w : Str} (z : (!decide (w ∈ (["x", "y"] : List Str))) = true) : letOf (.str w) = none := by
  have h := letB_str w
  cases hw : decide (w ∈ (["x", "y"] : List Str)) with
  | true => rw [hw] at z; cases z
  | false =>
    rw [hw] at h
    unfold letB at h
    cases g : letOf (.str w) with
    | none => rfl
    | some _ => rw [g] at h; cases h
theorem let_in {w : Str} (z : ¬ (!decide (w ∈ (["x", "y"] : List Str))) = true) : ∃ x, letOf (.str w) = some x := by
  refine letOf_b.mpr ?_
  rw [letB_str]
  cases hw : decide (w ∈ (["x", "y"] : List Str)) with
  | true => rfl
  | false => rw [hw] at z; exact absurd rfl z
def spDeep (N : Nat) : Sp := fun vs H Q _ => ∃ (a : Addr) (v : V) (d : PyData), vs = [v] ∧ H a ≠ none ∧ Da a H v d ∧ Sm N 1000 d ∧ ∀ H', Same H H' → Q (.int ((deepN d : Nat) : Int)) H'
section
variable {P : Program} {w : World} {K : PySem.W.Frag} {mg : Str → Option Value} {base : Heap}
theorem scDeep : FnScope ["_law_thing", "_law_word", "_law_rest", "_law_some", "_law_each"] ["_law_thing"] (defScope sDeep) := ⟨rfl, rfl, rfl, by decide +kernel, rfl, by decide +kernel, by decide +kernel⟩
theorem deep_zero (D : Def K mg "_law_deep" sDeep ["_law_thing"]) (nb : Nb mg) : Cal P w K mg base "_law_deep" 3 ["_law_thing"] (spDeep 0) := by
  refine D.ok scDeep (fun vs H Q E h => ?_) (fun f cdv A out s H vs Q E hr h => ?_)
  · obtain ⟨a, v, d, rfl, _⟩ := h; rfl
  obtain ⟨a, v, d, rfl, ha, hd, hs, q⟩ := h
  refine ⟨_, pss_cons (ps_if (PW.pt (pw_or (pt_not (pt_val (pe_callB (id := "isinstance") (r := rIsi K) call_isi (by rfl) nb.isi (by decide +kernel) (pa_cons (pv 0) (pa_cons (pe_bltn (v := .ty "tuple") (by rfl) nb.tup (by decide +kernel) rfl) pa_nil))))) (pw_or (pt_cmpR op_eq (pe_callB (id := "len") (r := rLn K) call_len_seq (by rfl) nb.len PySem.boot_len (pa_cons (pv 0) pa_nil)) pe_int (nomark _)) (pw_or1 (pt_not (pt_val (pe_callB (id := "isinstance") (r := rIsi K) call_isi (by rfl) nb.isi (by decide +kernel) (pa_cons (pe_ix (r := rIxT K) ix_tup (pv 0) pe_int (fun _ _ => rfl)) (pa_cons (pe_bltn (v := .ty "str") (by rfl) nb.str (by decide +kernel) rfl) pa_nil))))))))) (pss_one (ps_ret pe_int)) pss_nil) pss_dead, ?_⟩
  walk_at "rd"
  refine ⟨v, rfl, isi hd (isi_tup d) ⟨isTupD d, rfl, ?_⟩⟩
  have ht : isTupD d = false := by
    cases d with
    | tuple ds => have := hs.dep1; omega
    | _ => rfl
  rw [ht]
  rw [deep_none (say_tup ht)] at q
  exact iteT (iteT (q H (Same.refl H)))
theorem deep_step {N : Nat} (D : Def K mg "_law_deep" sDeep ["_law_thing"]) (nb : Nb mg) (c1 : Cal P w K mg base "_law_is_poly" 2 ["_law_thing"] (spB smallB)) (c : Cal P w K mg base "_law_deep" (N + 3) ["_law_thing"] (spDeep N)) : Cal P w K mg base "_law_deep" (N + 4) ["_law_thing"] (spDeep (N + 1)) := by
  refine D.ok scDeep (fun vs H Q E h => ?_) (fun f cdv A out s H vs Q E hr h => ?_)
  · obtain ⟨a, v, d, rfl, _⟩ := h; rfl
  obtain ⟨a, v, d, rfl, ha, hd, hs, q⟩ := h
  refine ⟨_, (pss_cons (ps_if (PW.pt (pw_or (pt_not (pt_val (pe_callB (id := "isinstance") (r := rIsi K) call_isi (by rfl) nb.isi (by decide +kernel) (pa_cons (pv 0) (pa_cons (pe_bltn (v := .ty "tuple") (by rfl) nb.tup (by decide +kernel) rfl) pa_nil))))) (pw_or (pt_cmpR op_eq (pe_callB (id := "len") (r := rLn K) call_len_seq (by rfl) nb.len PySem.boot_len (pa_cons (pv 0) pa_nil)) pe_int (nomark _)) (pw_or1 (pt_not (pt_val (pe_callB (id := "isinstance") (r := rIsi K) call_isi (by rfl) nb.isi (by decide +kernel) (pa_cons (pe_ix (r := rIxT K) ix_tup (pv 0) pe_int (fun _ _ => rfl)) (pa_cons (pe_bltn (v := .ty "str") (by rfl) nb.str (by decide +kernel) rfl) pa_nil))))))))) (pss_one (ps_ret pe_int)) pss_nil)
    (pss_cons (ps_par (i := 1) (j := 2) rfl scDeep.nd rfl rfl (by decide) rfl rfl (pa_cons (pe_ix (r := rIxT K) ix_tup (pv 0) pe_int (fun _ _ => rfl)) (pa_cons (pe_slice sl_tupA (pv 0) (po_some pe_int) po_none) pa_nil)) rfl)
    (pss_cons (ps_if (pt_cmpR op_in_seq (pv 1) (pe_tup (pa_cons pe_str (pa_cons pe_str pa_nil))) (by rfl)) (pss_one (ps_ret (pe_ifExp (pt_cmpR (op_eqT0 hr.units) (pv 2) (pe_tup pa_nil) (nomark _)) pe_int pe_int))) pss_nil)
    (pss_cons (ps_if (pt_cmpR op_in_seq (pv 1) (pe_tup (pa_cons pe_str (pa_cons pe_str (pa_cons pe_str (pa_cons pe_str (pa_cons pe_str (pa_cons pe_str pa_nil))))))) (by rfl)) (pss_one (ps_ret (pe_ifExp (PW.pt (pw_and (pt_cmpR op_eq (pe_callB (id := "len") (r := rLn K) call_len_seq (by rfl) nb.len PySem.boot_len (pa_cons (pv 2) pa_nil)) pe_int (nomark _)) (pw_and1 (pt_val (pe_cal c1 hr (by omega) (by rfl) (pa_cons (pe_ix (r := rIxT K) ix_tup (pv 2) pe_int (fun _ _ => rfl)) pa_nil)))))) pe_int pe_int))) pss_nil)
    (pss_cons (ps_if (pt_cmpR op_in_seq (pv 1) (pe_tup (pa_cons pe_str (pa_cons pe_str pa_nil))) (by rfl)) (pss_cons (ps_if (PW.pt (pw_or (pt_cmpR op_ne (pe_callB (id := "len") (r := rLn K) call_len_seq (by rfl) nb.len PySem.boot_len (pa_cons (pv 2) pa_nil)) pe_int (nomark _)) (pw_or (pt_not (pt_val (pe_callB (id := "isinstance") (r := rIsi K) call_isi (by rfl) nb.isi (by decide +kernel) (pa_cons (pe_ix (r := rIxT K) ix_tup (pv 2) pe_int (fun _ _ => rfl)) (pa_cons (pe_bltn (v := .ty "str") (by rfl) nb.str (by decide +kernel) rfl) pa_nil))))) (pw_or1 (pt_cmpR op_notIn_seq (pe_ix (r := rIxT K) ix_tup (pv 2) pe_int (fun _ _ => rfl)) (pe_tup (pa_cons pe_str (pa_cons pe_str pa_nil))) (by rfl)))))) (pss_one (ps_ret pe_int)) pss_nil)
    (pss_one (ps_set (i := 2) scDeep.nd rfl (Or.inl rfl) (pe_slice sl_tupA (pv 2) (po_some pe_int) po_none)))) (pss_one (ps_if (PW.pt (pw_or (pt_cmpR op_notIn_seq (pv 1) (pe_tup (pa_cons pe_str (pa_cons pe_str (pa_cons pe_str pa_nil)))) (by rfl)) (pw_or1 (pt_cmpR op_ne (pe_callB (id := "len") (r := rLn K) call_len_seq (by rfl) nb.len PySem.boot_len (pa_cons (pv 2) pa_nil)) (pe_ifExp (pt_cmpR op_eq (pv 1) pe_str (nomark _)) pe_int pe_int) (nomark _))))) (pss_one (ps_ret pe_int)) pss_nil)))
    (pss_cons (ps_setLc (i := 3) (own := [("_law_each", 4)]) (g := gName 4) (tt := tYes) rfl scDeep.nd rfl rfl (by rfl) (pi_tup (pv 2)) (blkOk_by (N := ["_law_thing", "_law_word", "_law_rest", "_law_some", "_law_each"]) (sc := defScope sDeep) (by decide +kernel)) (fun _ _ _ _ _ => pg_name (i := 4) scDeep.nd rfl (Or.inl rfl)) (fun _ _ _ _ _ => pts_nil) (fun _ _ _ _ _ => (pe_cal c hr (by omega) (by rfl) (pa_cons (pv 4) pa_nil))))
    (pss_one (ps_ret (pe_ifExp (pt_cmpR op_in_seq pe_int (pv 3) (by rfl)) pe_int (pe_op op_add pe_int (pe_callB (id := "max") (r := rMax K) (cr_max rfl) (by rfl) nb.max (by decide +kernel) (pa_cons (pv 3) pa_nil)))))))))))), ?_⟩
  walk_at "rd"
  refine ⟨v, rfl, isi hd (isi_tup d) ⟨isTupD d, rfl, ?_⟩⟩
  cases ht : isTupD d with
  | false =>
    rw [deep_none (say_tup ht)] at q
    exact iteT (iteT (q H (Same.refl H)))
  | true =>
    obtain ⟨p, xs, ds, rfl, rfl, np, hp, hx⟩ := tup_of hd ht
    refine iteF ⟨.ref p, rfl, p, xs, rfl, .inr (SqT.of hp), rfl, _, rfl, ?_⟩
    rw [hx.len]
    cases ds with
    | nil =>
      refine ite2 (fun _ => iteT ?_) (fun z => absurd (decide_eq_true rfl) z)
      exact q H (Same.refl H)
    | cons d0 rest =>
      refine ite2 (fun z => absurd (veq z) (by rw [List.length_cons]; omega)) (fun _ => ?_)
      refine ⟨.ref p, rfl, ix_at (n := 0) hd rfl fun x0 hx0 => isi hx0 (isi_str d0) ⟨isStrD d0, rfl, ?_⟩⟩
      cases hst : isStrD d0 with
      | false =>
        rw [deep_none (say_no fun w e => by rw [e] at hst; cases hst)] at q
        exact iteT (q H (Same.refl H))
      | true =>
        obtain ⟨wd, rfl, rfl⟩ := str_of hx0 hst
        refine iteF ⟨.ref p, rfl, ix_at (n := 0) hd rfl fun y0 hy0 => ?_⟩
        obtain rfl : y0 = .str wd := by cases hy0; rfl
        refine ⟨.ref p, rfl, 1, rfl, sl_da ha hd fun v1 H1 s1 hd1 => ⟨_, _, rfl, ?_⟩⟩
        rw [cut1] at hd1
        have smr : ∀ e ∈ rest, Sm N 1000 e := fun e m => (hs.mem (List.mem_cons_of_mem _ m)).up (by omega) (Nat.le_refl _)
        have hsay := say_str wd rest
        obtain ⟨p1, xs1, rfl, np1, hp1, hx1⟩ := da_tup hd1
        have hl1 := hx1.len
        have q := fun H' (k' : Same H1 H') => q H' (s1.trans k')
        have leaf : ∀ (s0 : Say), s0.depth = 1 → say (.tuple (.str wd :: rest)) = b0 s0 rest → ∀ H2, Same H1 H2 → ([] : List V).length ≤ sizeLine ∧ ∀ t, H2 t = none → rT0 false K (.ref p1) (.ref t) (upd H2 t (.tup [])) fun x H3 => ∃ b, x = .bl b ∧ if b = true then Q (.int 1) H3 else Q (.int 0) H3 := fun s0 h1 e H2 s2 => ⟨sz (by decide), fun t nt => by
          have s3 := same_new (o := .tup []) nt
          refine ⟨p1, t, xs1, [], rfl, rfl, SqT.of (s3 _ _ (s2 _ _ hp1)), SqT.of upd_same, rfl, ?_⟩
          rw [if_neg Bool.false_ne_true, empty_iff hx1]
          refine ⟨_, rfl, ?_⟩
          unfold b0 at e
          cases hre : rest.isEmpty with
          | true =>
            rw [hre, if_pos rfl] at e
            rw [deep_some e, h1] at q
            exact iteT (q _ (s2.trans s3))
          | false =>
            rw [hre, if_neg Bool.false_ne_true] at e
            rw [deep_none e] at q
            exact iteF (q _ (s2.trans s3))⟩
        rcases word_cases wd with rfl | rfl | rfl | rfl | rfl | rfl | rfl | ⟨hw, hr2⟩ | ⟨hw, hr2⟩
        · refine ⟨.str _, rfl, in_new (l := ["true", "false"]) rfl (by decide) fun H2 s2 => iteT ⟨.ref p1, rfl, leaf .tt rfl hsay H2 s2⟩⟩
        · refine ⟨.str _, rfl, in_new (l := ["true", "false"]) rfl (by decide) fun H2 s2 => iteT ⟨.ref p1, rfl, leaf .ff rfl hsay H2 s2⟩⟩
        · refine ⟨.str _, rfl, in_new (l := ["true", "false"]) rfl (by decide) fun H2 s2 => iteF ?_⟩
          refine ⟨.str _, rfl, in_new (l := ["below", "at", "above", "not below", "not at", "not above"]) rfl (by decide) fun H3 s3 => iteF ?_⟩
          refine ⟨.str _, rfl, in_new (l := ["all", "some"]) rfl (by decide) fun H4 s4 => iteF ?_⟩
          have s24 := (s2.trans s3).trans s4
          refine ⟨.str _, rfl, notIn_new (l := ["not", "both", "either"]) rfl (by decide) fun H5 s5 => iteF ?_⟩
          have s25 := s24.trans s5
          refine ⟨.ref p1, rfl, p1, xs1, rfl, .inr (SqT.of (s25 _ _ hp1)), .str _, rfl, rfl, _, rfl, iteT ⟨rfl, _, rfl, ?_⟩⟩
          rw [hl1]
          refine ite2 (fun z => ?_) (fun z => ?_)
          · have z := neN z
            rw [show deepN (.tuple (.str "not" :: rest)) = 0 from deep_none (by rw [hsay, bw_nn]; exact b1_len (by rw [says_len]; exact z))] at q
            exact q H5 s25
          · have z := eqN z
            obtain ⟨d1, rfl⟩ : ∃ d1, rest = [d1] := List.length_eq_one_iff.mp z
            have ec : deepN (.tuple [.str "not", d1]) = mx ([d1].map deepN) := by
              refine (deep_nn ?_ : _ = _)
              rw [hsay, bw_nn, says1]
            have e := ec
            rw [e] at q
            refine lc_mapT (fun d => V.int ((deepN d : Nat) : Int)) rfl (s25 _ _ hp1) (hx1.same s25) (by rw [((hx1.same s25)).len]; simp) (wipe1 _ 4) (fun x d HA hm tA dx R k => ⟨x, rfl, a, x, d, rfl, same_some ((s1.trans s25).trans tA) ha, dx, smr d (by simp at hm ⊢; first | exact hm | exact .inl hm | exact .inr hm), fun HB tB => k HB tB⟩) fun L HL tL nL hL => ?_
            refine ⟨.ref L, rfl, L, _, rfl, .inl (SqL.of hL), rfl, flat_deep _, _, rfl, ?_⟩
            rw [if_neg Bool.false_ne_true, in0]
            refine ite2 (fun z => ?_) (fun z => ?_)
            · have z := of_decide_eq_true z
              rw [mx_zero z] at q
              exact q HL (s25.trans tL)
            · have z : 0 ∉ [d1].map deepN := fun y => z (decide_eq_true y)
              refine ⟨.ref L, rfl, L, [d1].map (fun d => ((deepN d : Nat) : Int)), rfl, SqL.of (by rw [List.map_map]; exact hL), by simp, fun m hm1 hm2 => ⟨_, _, rfl, rfl, ?_⟩⟩
              rw [mx_some z hm1 hm2] at q
              exact q HL (s25.trans tL)
        · refine ⟨.str _, rfl, in_new (l := ["true", "false"]) rfl (by decide) fun H2 s2 => iteF ?_⟩
          refine ⟨.str _, rfl, in_new (l := ["below", "at", "above", "not below", "not at", "not above"]) rfl (by decide) fun H3 s3 => iteF ?_⟩
          refine ⟨.str _, rfl, in_new (l := ["all", "some"]) rfl (by decide) fun H4 s4 => iteF ?_⟩
          have s24 := (s2.trans s3).trans s4
          refine ⟨.str _, rfl, notIn_new (l := ["not", "both", "either"]) rfl (by decide) fun H5 s5 => iteF ?_⟩
          have s25 := s24.trans s5
          refine ⟨.ref p1, rfl, p1, xs1, rfl, .inr (SqT.of (s25 _ _ hp1)), .str _, rfl, rfl, _, rfl, iteF ⟨rfl, _, rfl, ?_⟩⟩
          rw [hl1]
          refine ite2 (fun z => ?_) (fun z => ?_)
          · have z := neN z
            rw [show deepN (.tuple (.str "both" :: rest)) = 0 from deep_none (by rw [hsay, bw_bo]; exact b2_len (by rw [says_len]; exact z))] at q
            exact q H5 s25
          · have z := eqN z
            obtain ⟨d1, d2, rfl⟩ : ∃ d1 d2, rest = [d1, d2] := by
              match rest, z with
              | [a, b], _ => exact ⟨a, b, rfl⟩
            have ec : deepN (.tuple [.str "both", d1, d2]) = mx ([d1, d2].map deepN) := by
              refine (deep_bo (b := true) ?_ : _ = _)
              rw [hsay, bw_bo, says2]
            have e := ec
            rw [e] at q
            refine lc_mapT (fun d => V.int ((deepN d : Nat) : Int)) rfl (s25 _ _ hp1) (hx1.same s25) (by rw [((hx1.same s25)).len]; simp) (wipe1 _ 4) (fun x d HA hm tA dx R k => ⟨x, rfl, a, x, d, rfl, same_some ((s1.trans s25).trans tA) ha, dx, smr d (by simp at hm ⊢; first | exact hm | exact .inl hm | exact .inr hm), fun HB tB => k HB tB⟩) fun L HL tL nL hL => ?_
            refine ⟨.ref L, rfl, L, _, rfl, .inl (SqL.of hL), rfl, flat_deep _, _, rfl, ?_⟩
            rw [if_neg Bool.false_ne_true, in0]
            refine ite2 (fun z => ?_) (fun z => ?_)
            · have z := of_decide_eq_true z
              rw [mx_zero z] at q
              exact q HL (s25.trans tL)
            · have z : 0 ∉ [d1, d2].map deepN := fun y => z (decide_eq_true y)
              refine ⟨.ref L, rfl, L, [d1, d2].map (fun d => ((deepN d : Nat) : Int)), rfl, SqL.of (by rw [List.map_map]; exact hL), by simp, fun m hm1 hm2 => ⟨_, _, rfl, rfl, ?_⟩⟩
              rw [mx_some z hm1 hm2] at q
              exact q HL (s25.trans tL)
        · refine ⟨.str _, rfl, in_new (l := ["true", "false"]) rfl (by decide) fun H2 s2 => iteF ?_⟩
          refine ⟨.str _, rfl, in_new (l := ["below", "at", "above", "not below", "not at", "not above"]) rfl (by decide) fun H3 s3 => iteF ?_⟩
          refine ⟨.str _, rfl, in_new (l := ["all", "some"]) rfl (by decide) fun H4 s4 => iteF ?_⟩
          have s24 := (s2.trans s3).trans s4
          refine ⟨.str _, rfl, notIn_new (l := ["not", "both", "either"]) rfl (by decide) fun H5 s5 => iteF ?_⟩
          have s25 := s24.trans s5
          refine ⟨.ref p1, rfl, p1, xs1, rfl, .inr (SqT.of (s25 _ _ hp1)), .str _, rfl, rfl, _, rfl, iteF ⟨rfl, _, rfl, ?_⟩⟩
          rw [hl1]
          refine ite2 (fun z => ?_) (fun z => ?_)
          · have z := neN z
            rw [show deepN (.tuple (.str "either" :: rest)) = 0 from deep_none (by rw [hsay, bw_ei]; exact b2_len (by rw [says_len]; exact z))] at q
            exact q H5 s25
          · have z := eqN z
            obtain ⟨d1, d2, rfl⟩ : ∃ d1 d2, rest = [d1, d2] := by
              match rest, z with
              | [a, b], _ => exact ⟨a, b, rfl⟩
            have ec : deepN (.tuple [.str "either", d1, d2]) = mx ([d1, d2].map deepN) := by
              refine (deep_bo (b := false) ?_ : _ = _)
              rw [hsay, bw_ei, says2]
            have e := ec
            rw [e] at q
            refine lc_mapT (fun d => V.int ((deepN d : Nat) : Int)) rfl (s25 _ _ hp1) (hx1.same s25) (by rw [((hx1.same s25)).len]; simp) (wipe1 _ 4) (fun x d HA hm tA dx R k => ⟨x, rfl, a, x, d, rfl, same_some ((s1.trans s25).trans tA) ha, dx, smr d (by simp at hm ⊢; first | exact hm | exact .inl hm | exact .inr hm), fun HB tB => k HB tB⟩) fun L HL tL nL hL => ?_
            refine ⟨.ref L, rfl, L, _, rfl, .inl (SqL.of hL), rfl, flat_deep _, _, rfl, ?_⟩
            rw [if_neg Bool.false_ne_true, in0]
            refine ite2 (fun z => ?_) (fun z => ?_)
            · have z := of_decide_eq_true z
              rw [mx_zero z] at q
              exact q HL (s25.trans tL)
            · have z : 0 ∉ [d1, d2].map deepN := fun y => z (decide_eq_true y)
              refine ⟨.ref L, rfl, L, [d1, d2].map (fun d => ((deepN d : Nat) : Int)), rfl, SqL.of (by rw [List.map_map]; exact hL), by simp, fun m hm1 hm2 => ⟨_, _, rfl, rfl, ?_⟩⟩
              rw [mx_some z hm1 hm2] at q
              exact q HL (s25.trans tL)
        · refine ⟨.str _, rfl, in_new (l := ["true", "false"]) rfl (by decide) fun H2 s2 => iteF ?_⟩
          refine ⟨.str _, rfl, in_new (l := ["below", "at", "above", "not below", "not at", "not above"]) rfl (by decide) fun H3 s3 => iteF ?_⟩
          refine ⟨.str _, rfl, in_new (l := ["all", "some"]) rfl (by decide) fun H4 s4 => iteT ?_⟩
          have s24 := (s2.trans s3).trans s4
          refine ⟨.ref p1, rfl, p1, xs1, rfl, .inr (SqT.of (s24 _ _ hp1)), rfl, _, rfl, ?_⟩
          rw [hl1]
          refine ite2 (fun z => ?_) (fun z => ?_)
          · have z := neN z
            rw [show deepN (.tuple (.str "all" :: rest)) = 0 from deep_none (by rw [hsay, bw_al]; exact bq_len z)] at q
            exact iteT (q H4 s24)
          · have z := eqN z
            obtain ⟨l, d2, rfl⟩ : ∃ d1 d2, rest = [d1, d2] := by
              match rest, z with
              | [a, b], _ => exact ⟨a, b, rfl⟩
            have e : say (.tuple [.str "all", l, d2]) = bq true [l, d2] [say l, say d2] := by rw [hsay, bw_al, says2]
            refine ⟨.ref p1, rfl, ix_at (n := 0) (hd1.same s24) rfl fun x hx => isi hx (isi_str l) ⟨isStrD l, rfl, ?_⟩⟩
            cases hl : isStrD l with
            | false =>
              rw [show deepN (.tuple [.str "all", l, d2]) = 0 from deep_none (by rw [e]; exact bq_no (let_str hl))] at q
              exact iteT (iteT (q H4 s24))
            | true =>
              obtain ⟨wl, rfl, rfl⟩ := str_of hx hl
              refine iteF ⟨.ref p1, rfl, ix_at (n := 0) (hd1.same s24) rfl fun y hy => ?_⟩
              obtain rfl : y = .str wl := by cases hy; rfl
              refine notIn_new (l := ["x", "y"]) rfl (by decide) fun H5 s5 => ?_
              have s25 := s24.trans s5
              refine ite2 (fun z => ?_) (fun z => ?_)
              · rw [show deepN (.tuple [.str "all", .str wl, d2]) = 0 from deep_none (by rw [e]; exact bq_no (let_out z))] at q
                exact q H5 s25
              · obtain ⟨x1, hx1⟩ := let_in z
                have ec : deepN (.tuple [.str "all", .str wl, d2]) = mx ([d2].map deepN) := by
                  refine deep_q true (x := x1) ?_
                  rw [e]; unfold bq; simp only [hx1]; cases say d2 <;> rfl
                refine ⟨.ref p1, rfl, 1, rfl, sl_da (same_some (s1.trans s25) ha) (hd1.same s25) fun v2 H6 s6 hd2 => ?_⟩
                rw [cut1] at hd2
                obtain ⟨p2, xs2, rfl, np2, hp2, hx2⟩ := da_tup hd2
                have s26 := s25.trans s6
                have e := ec
                rw [e] at q
                refine lc_mapT (fun d => V.int ((deepN d : Nat) : Int)) rfl hp2 hx2 (by rw [(hx2).len]; simp) (wipe1 _ 4) (fun x d HA hm tA dx R k => ⟨x, rfl, a, x, d, rfl, same_some ((s1.trans s26).trans tA) ha, dx, smr d (by simp at hm ⊢; first | exact hm | exact .inl hm | exact .inr hm), fun HB tB => k HB tB⟩) fun L HL tL nL hL => ?_
                refine ⟨.ref L, rfl, L, _, rfl, .inl (SqL.of hL), rfl, flat_deep _, _, rfl, ?_⟩
                rw [if_neg Bool.false_ne_true, in0]
                refine ite2 (fun z => ?_) (fun z => ?_)
                · have z := of_decide_eq_true z
                  rw [mx_zero z] at q
                  exact q HL (s26.trans tL)
                · have z : 0 ∉ [d2].map deepN := fun y => z (decide_eq_true y)
                  refine ⟨.ref L, rfl, L, [d2].map (fun d => ((deepN d : Nat) : Int)), rfl, SqL.of (by rw [List.map_map]; exact hL), by simp, fun m hm1 hm2 => ⟨_, _, rfl, rfl, ?_⟩⟩
                  rw [mx_some z hm1 hm2] at q
                  exact q HL (s26.trans tL)
        · refine ⟨.str _, rfl, in_new (l := ["true", "false"]) rfl (by decide) fun H2 s2 => iteF ?_⟩
          refine ⟨.str _, rfl, in_new (l := ["below", "at", "above", "not below", "not at", "not above"]) rfl (by decide) fun H3 s3 => iteF ?_⟩
          refine ⟨.str _, rfl, in_new (l := ["all", "some"]) rfl (by decide) fun H4 s4 => iteT ?_⟩
          have s24 := (s2.trans s3).trans s4
          refine ⟨.ref p1, rfl, p1, xs1, rfl, .inr (SqT.of (s24 _ _ hp1)), rfl, _, rfl, ?_⟩
          rw [hl1]
          refine ite2 (fun z => ?_) (fun z => ?_)
          · have z := neN z
            rw [show deepN (.tuple (.str "some" :: rest)) = 0 from deep_none (by rw [hsay, bw_so]; exact bq_len z)] at q
            exact iteT (q H4 s24)
          · have z := eqN z
            obtain ⟨l, d2, rfl⟩ : ∃ d1 d2, rest = [d1, d2] := by
              match rest, z with
              | [a, b], _ => exact ⟨a, b, rfl⟩
            have e : say (.tuple [.str "some", l, d2]) = bq false [l, d2] [say l, say d2] := by rw [hsay, bw_so, says2]
            refine ⟨.ref p1, rfl, ix_at (n := 0) (hd1.same s24) rfl fun x hx => isi hx (isi_str l) ⟨isStrD l, rfl, ?_⟩⟩
            cases hl : isStrD l with
            | false =>
              rw [show deepN (.tuple [.str "some", l, d2]) = 0 from deep_none (by rw [e]; exact bq_no (let_str hl))] at q
              exact iteT (iteT (q H4 s24))
            | true =>
              obtain ⟨wl, rfl, rfl⟩ := str_of hx hl
              refine iteF ⟨.ref p1, rfl, ix_at (n := 0) (hd1.same s24) rfl fun y hy => ?_⟩
              obtain rfl : y = .str wl := by cases hy; rfl
              refine notIn_new (l := ["x", "y"]) rfl (by decide) fun H5 s5 => ?_
              have s25 := s24.trans s5
              refine ite2 (fun z => ?_) (fun z => ?_)
              · rw [show deepN (.tuple [.str "some", .str wl, d2]) = 0 from deep_none (by rw [e]; exact bq_no (let_out z))] at q
                exact q H5 s25
              · obtain ⟨x1, hx1⟩ := let_in z
                have ec : deepN (.tuple [.str "some", .str wl, d2]) = mx ([d2].map deepN) := by
                  refine deep_q false (x := x1) ?_
                  rw [e]; unfold bq; simp only [hx1]; cases say d2 <;> rfl
                refine ⟨.ref p1, rfl, 1, rfl, sl_da (same_some (s1.trans s25) ha) (hd1.same s25) fun v2 H6 s6 hd2 => ?_⟩
                rw [cut1] at hd2
                obtain ⟨p2, xs2, rfl, np2, hp2, hx2⟩ := da_tup hd2
                have s26 := s25.trans s6
                have e := ec
                rw [e] at q
                refine lc_mapT (fun d => V.int ((deepN d : Nat) : Int)) rfl hp2 hx2 (by rw [(hx2).len]; simp) (wipe1 _ 4) (fun x d HA hm tA dx R k => ⟨x, rfl, a, x, d, rfl, same_some ((s1.trans s26).trans tA) ha, dx, smr d (by simp at hm ⊢; first | exact hm | exact .inl hm | exact .inr hm), fun HB tB => k HB tB⟩) fun L HL tL nL hL => ?_
                refine ⟨.ref L, rfl, L, _, rfl, .inl (SqL.of hL), rfl, flat_deep _, _, rfl, ?_⟩
                rw [if_neg Bool.false_ne_true, in0]
                refine ite2 (fun z => ?_) (fun z => ?_)
                · have z := of_decide_eq_true z
                  rw [mx_zero z] at q
                  exact q HL (s26.trans tL)
                · have z : 0 ∉ [d2].map deepN := fun y => z (decide_eq_true y)
                  refine ⟨.ref L, rfl, L, [d2].map (fun d => ((deepN d : Nat) : Int)), rfl, SqL.of (by rw [List.map_map]; exact hL), by simp, fun m hm1 hm2 => ⟨_, _, rfl, rfl, ?_⟩⟩
                  rw [mx_some z hm1 hm2] at q
                  exact q HL (s26.trans tL)
        · have nt : ∀ l : List Str, (∀ x ∈ l, x ∈ words) → decide (wd ∈ l) = false := fun l h => decide_eq_false fun m => hw (h _ m)
          refine ⟨.str _, rfl, in_new (l := ["true", "false"]) rfl (by decide) fun H2 s2 => ?_⟩
          rw [nt _ (by decide)]
          refine iteF ⟨.str _, rfl, in_new (l := ["below", "at", "above", "not below", "not at", "not above"]) rfl (by decide) fun H3 s3 => ?_⟩
          rw [show decide (wd ∈ (["below", "at", "above", "not below", "not at", "not above"] : List Str)) = true from decide_eq_true hr2]
          have s23 := s2.trans s3
          have hre := bw_re hr2 rest (says rest)
          refine iteT ⟨.ref p1, rfl, p1, xs1, rfl, .inr (SqT.of (s23 _ _ hp1)), rfl, _, rfl, ?_⟩
          rw [hl1]
          refine ite2 (fun z => ?_) (fun z => ?_)
          · have z := veq z
            obtain ⟨d1, rfl⟩ : ∃ d1, rest = [d1] := List.length_eq_one_iff.mp (by omega)
            refine ⟨.ref p1, rfl, ix_at (n := 0) (hd1.same s23) rfl fun x hx => ⟨a, x, d1, N, rfl, hx, smr d1 (by simp), fun H5 s5 => ⟨_, rfl, ?_⟩⟩⟩
            have e : say (.tuple [.str wd, d1]) = if smallB d1 then some (.re wd d1) else none := by rw [hsay, hre]; rfl
            cases hsm : smallB d1 with
            | false =>
              rw [hsm, if_neg Bool.false_ne_true] at e
              rw [deep_none e] at q
              exact iteF (q H5 (s23.trans s5))
            | true =>
              rw [hsm, if_pos rfl] at e
              rw [deep_some e] at q
              exact iteT (q H5 (s23.trans s5))
          · have z := vne z
            rw [deep_none (by rw [hsay, hre]; exact br_len (by omega))] at q
            exact iteF (q H3 s23)
        · have nt : ∀ l : List Str, (∀ x ∈ l, x ∈ words) → decide (wd ∈ l) = false := fun l h => decide_eq_false fun m => hw (h _ m)
          refine ⟨.str _, rfl, in_new (l := ["true", "false"]) rfl (by decide) fun H2 s2 => ?_⟩
          rw [nt _ (by decide)]
          refine iteF ⟨.str _, rfl, in_new (l := ["below", "at", "above", "not below", "not at", "not above"]) rfl (by decide) fun H3 s3 => ?_⟩
          rw [show decide (wd ∈ (["below", "at", "above", "not below", "not at", "not above"] : List Str)) = false from decide_eq_false hr2]
          refine iteF ⟨.str _, rfl, in_new (l := ["all", "some"]) rfl (by decide) fun H4 s4 => ?_⟩
          rw [nt _ (by decide)]
          refine iteF ⟨.str _, rfl, notIn_new (l := ["not", "both", "either"]) rfl (by decide) fun H5 s5 => ?_⟩
          rw [nt _ (by decide)]
          have e : say (.tuple (.str wd :: rest)) = none := by rw [hsay]; exact bw_no hw hr2 _ _
          rw [deep_none e] at q
          exact iteT (iteT (q H5 (((s2.trans s3).trans s4).trans s5)))
theorem deep_all (D : Def K mg "_law_deep" sDeep ["_law_thing"]) (nb : Nb mg) (c1 : Cal P w K mg base "_law_is_poly" 2 ["_law_thing"] (spB smallB)) : ∀ N : Nat, Cal P w K mg base "_law_deep" (N + 3) ["_law_thing"] (spDeep N)
  | 0 => deep_zero D nb
  | N + 1 => deep_step D nb c1 (deep_all D nb c1 N)
end
end K43

set_option Elab.async false
set_option linter.all false
set_option maxRecDepth 100000
set_option maxHeartbeats 8000000
local macro_rules | `(tactic| walk_at "rd") => `(tactic| dsimp only [Evl.tCut, L2.tSeq, L2.tNext, L2.tRet, L2.tRetN, L2.tAsg, L2.gName, L2.tIfS, L2.tDrop, L2.tCons, L2.tNil, L2.tC, L2.tVar, L2.tCB, L2.tAndV, L2.tOrV, L2.tNotV, L2.tB, L2.tTest, L2.tOp, L2.tUn, L2.tNot, L2.tAnd, L2.tOr, L2.tIf, L2.tCall, L2.tTup, L2.tLst, L2.tNotT, L2.tYes, L2.gTup, L2.gCons, L2.gNil, L2.gSub, L2.tBM0, L2.tBM, L2.tWhile, L2.tFor, L2.iRng1, L2.iRng2, L2.tAugS, Tw.iEnumT, L2.tCKw, L2.tAug, L2.ipI, RT.iRevA, L2.tPar, L2.tPar3, L2.tSl, L2.tNoPart, L2.tPart, Tw.tRevT, Tw.tFput])
namespace K43
open PySem PySem.Spec PyProof.Rows L2 Tw
/-! how large data are -/
mutual
def nd : PyData → Nat
  | .str x => x.cps.size + 1
  | .list ds => nd1 ds + 1
  | .tuple ds => nd1 ds + 1
  | _ => 1
def nd1 : List PyData → Nat
  | [] => 0
  | d :: ds => nd d + nd1 ds
end
mutual
def lf (b : Nat) : PyData → Bool
  | .int i => decide (i.natAbs ≤ b)
  | .str x => x.cps.toList.all fun c => decide (c < 16 ^ 8)
  | .list ds => lf1 b ds
  | .tuple ds => lf1 b ds
  | .dict kvs => kvs.isEmpty
  | _ => true
def lf1 (b : Nat) : List PyData → Bool
  | [] => true
  | d :: ds => lf b d && lf1 b ds
end
/-- leaves no longer than b, w things in all -/
def Ls (b w : Nat) (d : PyData) : Prop := lf b d = true ∧ nd d ≤ w
theorem lf1_mem {b : Nat} : ∀ {ds : List PyData} {d : PyData}, lf1 b ds = true → d ∈ ds → lf b d = true
  | e :: ds, d, h, m => by
    rw [lf1, Bool.and_eq_true] at h
    rcases List.mem_cons.mp m with rfl | m
    · exact h.1
    · exact lf1_mem h.2 m
theorem lf1_of {b : Nat} : ∀ {ds : List PyData}, (∀ d ∈ ds, lf b d = true) → lf1 b ds = true
  | [], _ => by rw [lf1]
  | e :: ds, h => by rw [lf1, h e (by simp), lf1_of fun d m => h d (by simp [m])]; rfl
theorem nd1_mem : ∀ {ds : List PyData} {d : PyData}, d ∈ ds → nd d ≤ nd1 ds
  | e :: ds, d, m => by
    rw [nd1]
    rcases List.mem_cons.mp m with rfl | m
    · omega
    · have := nd1_mem m; omega
theorem nd1_app : ∀ ds es : List PyData, nd1 (ds ++ es) = nd1 ds + nd1 es
  | [], es => by rw [List.nil_append, nd1]; omega
  | d :: ds, es => by rw [List.cons_append, nd1, nd1, nd1_app ds es]; omega
theorem nd1_rev : ∀ ds : List PyData, nd1 ds.reverse = nd1 ds
  | [] => rfl
  | d :: ds => by rw [List.reverse_cons, nd1_app, nd1_rev ds, nd1, nd1, nd1]; omega
theorem nd1_cut (ds : List PyData) (k : Nat) : nd1 (ds.take k) + nd1 (ds.drop k) = nd1 ds := by
  rw [← nd1_app, List.take_append_drop]
theorem nd1_take (ds : List PyData) (k : Nat) : nd1 (ds.take k) ≤ nd1 ds := by have := nd1_cut ds k; omega
theorem nd1_drop (ds : List PyData) (k : Nat) : nd1 (ds.drop k) ≤ nd1 ds := by have := nd1_cut ds k; omega
theorem nd1_cutD (ds : List PyData) (lo hi : Option Int) : nd1 (Tw.cutD ds lo hi) ≤ nd1 ds := Nat.le_trans (nd1_take _ _) (nd1_drop _ _)
theorem nd_pos (d : PyData) : 1 ≤ nd d := by
  cases d <;> simp only [nd] <;> omega
theorem nd1_two (ds : List PyData) (j : Nat) : nd1 (Tw.cutD ds none (some (j : Int))) + nd1 (Tw.cutD ds (some ((j + 1 : Nat) : Int)) none) ≤ nd1 ds := by
  unfold Tw.cutD
  rw [HT.sIx_nat, HT.sIx_none, HT.sIx_nat, HT.sIx_none, List.drop_zero, Nat.sub_zero]
  have h1 := nd1_take (ds.drop (min (j + 1) ds.length)) (ds.length - min (j + 1) ds.length)
  by_cases c : j < ds.length
  · rw [Nat.min_eq_left (by omega : j ≤ ds.length)]
    rw [Nat.min_eq_left (by omega : j + 1 ≤ ds.length)] at h1 ⊢
    have h2 := nd1_cut ds j
    have h3 : nd1 (ds.drop (j + 1)) ≤ nd1 (ds.drop j) := by
      rw [← List.drop_drop]; exact nd1_drop _ 1
    omega
  · rw [Nat.min_eq_right (by omega : ds.length ≤ j)]
    rw [Nat.min_eq_right (by omega : ds.length ≤ j + 1)] at h1 ⊢
    rw [List.drop_length] at h1 ⊢
    have h2 := nd1_take ds ds.length
    have h4 : nd1 [] = 0 := rfl
    omega
mutual
theorem lf_up {b c : Nat} (h : b ≤ c) : ∀ {d : PyData}, lf b d = true → lf c d = true
  | .int i, z => by rw [lf] at z ⊢; exact decide_eq_true (Nat.le_trans (of_decide_eq_true z) h)
  | .str x, z => by rw [lf] at z ⊢; exact z
  | .list ds, z => by rw [lf] at z ⊢; exact lf1_up h z
  | .tuple ds, z => by rw [lf] at z ⊢; exact lf1_up h z
  | .dict kvs, z => by rw [lf] at z ⊢; exact z
  | .none, z => by rw [lf] <;> nofun
  | .bool _, z => by rw [lf] <;> nofun
theorem lf1_up {b c : Nat} (h : b ≤ c) : ∀ {ds : List PyData}, lf1 b ds = true → lf1 c ds = true
  | [], z => by rw [lf1]
  | d :: ds, z => by
    rw [lf1, Bool.and_eq_true] at z ⊢
    exact ⟨lf_up h z.1, lf1_up h z.2⟩
end
theorem Ls.up {b w b' w' : Nat} {d : PyData} (h : Ls b w d) (h1 : b ≤ b') (h2 : w ≤ w') : Ls b' w' d := ⟨lf_up h1 h.1, Nat.le_trans h.2 h2⟩
theorem Ls.mem {b w : Nat} {ds : List PyData} {d : PyData} (h : Ls b w (.tuple ds)) (m : d ∈ ds) : Ls b w d := by
  obtain ⟨h1, h2⟩ := h
  rw [lf] at h1
  rw [nd] at h2
  have := nd1_mem m
  exact ⟨lf1_mem h1 m, by omega⟩
theorem Ls.nd {b w : Nat} {ds : List PyData} (h : Ls b w (.tuple ds)) : nd1 ds + 1 ≤ w := by
  have := h.2
  rw [K43.nd] at this
  exact this
theorem ls_sub {b b' w w' : Nat} {ds es : List PyData} (h : Ls b w (.tuple ds)) (hb : b ≤ b') (hn : nd1 es + 1 ≤ w') (he : ∀ e ∈ es, e ∈ ds ∨ lf b' e = true) : Ls b' w' (.tuple es) := by
  refine ⟨?_, by rw [K43.nd]; exact hn⟩
  rw [lf]
  refine lf1_of fun e m => ?_
  rcases he e m with c | c
  · exact ((h.mem c).up hb (Nat.le_refl _)).1
  · exact c
theorem ls_subL {b b' w w' : Nat} {ds es : List PyData} (h : Ls b w (.tuple ds)) (hb : b ≤ b') (hn : nd1 es + 1 ≤ w') (he : ∀ e ∈ es, e ∈ ds ∨ lf b' e = true) : Ls b' w' (.list es) := by
  have z := ls_sub h hb hn he
  obtain ⟨z1, z2⟩ := z
  rw [lf] at z1
  rw [K43.nd] at z2
  exact ⟨by rw [lf]; exact z1, by rw [K43.nd]; exact z2⟩
theorem ls_int {b w : Nat} {i : Int} (h : i.natAbs ≤ b) (hw : 1 ≤ w) : Ls b w (.int i) := ⟨by rw [lf]; exact decide_eq_true h, by rw [K43.nd] <;> first | exact hw | nofun⟩
theorem ls_bl {b w : Nat} {x : Bool} (hw : 1 ≤ w) : Ls b w (.bool x) := ⟨by rw [lf] <;> nofun, by rw [K43.nd] <;> first | exact hw | nofun⟩
/-! what of this is told to the writing out -/
def B2 : Nat := 1000000000000000000000000000000000000000000
mutual
theorem lf_show : ∀ {d : PyData}, lf B2 d = true → PyData.showable d = true ∧ PyData.leavesShort 80 d = true
  | .int i, z => by
    rw [lf] at z
    have z := of_decide_eq_true z
    have hc : i.natAbs < 10 ^ 45 := Nat.lt_of_le_of_lt z (by decide)
    refine ⟨?_, ?_⟩
    · rw [PyData.showable]
      refine decide_eq_true ?_
      by_cases c : i.natAbs = 0
      · rw [c]; decide
      · exact Nat.lt_trans ((Nat.log2_lt c).mpr (Nat.lt_of_lt_of_le hc (by decide : 10 ^ 45 ≤ 2 ^ 150))) (by decide)
    · have : (PyData.shown (.int i)).length ≤ 80 := by
        show (Str.ofString (toString i)).length ≤ 80
        rw [PySem.ofString_length]
        exact Nat.le_trans (int_text_length_le10 (k := 45) (by decide) hc) (by decide)
      rw [PyData.leavesShort, decide_eq_true this]
  | .str x, z => by
    rw [lf] at z
    exact ⟨by rw [PyData.showable], by rw [PyData.leavesShort]; exact z⟩
  | .list ds, z => by
    rw [lf] at z
    have := lf1_show z
    exact ⟨by rw [PyData.showable]; exact this.1, by rw [PyData.leavesShort]; exact this.2⟩
  | .tuple ds, z => by
    rw [lf] at z
    have := lf1_show z
    exact ⟨by rw [PyData.showable]; exact this.1, by rw [PyData.leavesShort]; exact this.2⟩
  | .dict kvs, z => by
    rw [lf] at z
    cases kvs with
    | nil => exact ⟨rfl, rfl⟩
    | cons _ _ => cases z
  | .none, _ => ⟨rfl, rfl⟩
  | .bool _, _ => ⟨rfl, rfl⟩
theorem lf1_show : ∀ {ds : List PyData}, lf1 B2 ds = true → PyData.showableAll ds = true ∧ PyData.leavesShortAll 80 ds = true
  | [], _ => ⟨rfl, rfl⟩
  | d :: ds, z => by
    rw [lf1, Bool.and_eq_true] at z
    have h1 := lf_show z.1
    have h2 := lf1_show z.2
    exact ⟨by rw [PyData.showableAll, h1.1, h2.1]; rfl, by rw [PyData.leavesShortAll, h1.2, h2.2]; rfl⟩
end
mutual
theorem bulk_nd {b : Nat} : ∀ {d : PyData}, lf b d = true → PyData.bulk d + 1 ≤ nd d
  | .int i, _ => by rw [PyData.bulk, nd] <;> first | omega | nofun
  | .str x, _ => by rw [PyData.bulk, nd] <;> first | omega | nofun
  | .list ds, z => by
    rw [lf] at z
    have := bulk_nd1 z
    rw [PyData.bulk, nd]; omega
  | .tuple ds, z => by
    rw [lf] at z
    have := bulk_nd1 z
    rw [PyData.bulk, nd]; omega
  | .dict kvs, z => by
    rw [lf] at z
    cases kvs with
    | nil => exact Nat.le_refl _
    | cons _ _ => cases z
  | .none, _ => Nat.le_refl _
  | .bool _, _ => Nat.le_refl _
theorem bulk_nd1 {b : Nat} : ∀ {ds : List PyData}, lf1 b ds = true → PyData.bulkAll ds ≤ nd1 ds
  | [], _ => Nat.le_refl _
  | d :: ds, z => by
    rw [lf1, Bool.and_eq_true] at z
    have h1 := bulk_nd z.1
    have h2 := bulk_nd1 z.2
    rw [PyData.bulkAll, nd1]; omega
end
mutual
theorem depth_dep {b : Nat} : ∀ {d : PyData}, lf b d = true → PyData.depth d ≤ dep d + 1
  | .int i, _ => by rw [PyData.depth]; omega
  | .str x, _ => by rw [PyData.depth]; omega
  | .list ds, z => by
    rw [lf] at z
    have := depth_dep1 z
    rw [PyData.depth, dep]; omega
  | .tuple ds, z => by
    rw [lf] at z
    have := depth_dep1 z
    rw [PyData.depth, dep]; omega
  | .dict kvs, z => by
    rw [lf] at z
    cases kvs with
    | nil => exact Nat.le_add_left _ _
    | cons _ _ => cases z
  | .none, _ => Nat.zero_le _
  | .bool _, _ => Nat.zero_le _
theorem depth_dep1 {b : Nat} : ∀ {ds : List PyData}, lf1 b ds = true → PyData.depthAll ds ≤ dep1 ds + 1
  | [], _ => Nat.zero_le _
  | d :: ds, z => by
    rw [lf1, Bool.and_eq_true] at z
    have h1 := depth_dep z.1
    have h2 := depth_dep1 z.2
    rw [PyData.depthAll, dep1]; omega
end
theorem shown_fit {w : Nat} {d : PyData} (h : Ls B2 w d) (hw : w ≤ 100000) : d.shown.length ≤ sizeLine := by
  have h1 := PyData.shown_le_bulk 80 (by decide) d (lf_show h.1).2
  have h2 := bulk_nd h.1
  have h3 := h.2
  refine Nat.le_trans h1 (Nat.le_trans ?_ (show 16777216 ≤ sizeLine by decide))
  omega
end K43

set_option Elab.async false
set_option linter.all false
set_option maxRecDepth 100000
set_option maxHeartbeats 8000000
local macro_rules | `(tactic| walk_at "rd") => `(tactic| dsimp only [Evl.tCut, L2.tSeq, L2.tNext, L2.tRet, L2.tRetN, L2.tAsg, L2.gName, L2.tIfS, L2.tDrop, L2.tCons, L2.tNil, L2.tC, L2.tVar, L2.tCB, L2.tAndV, L2.tOrV, L2.tNotV, L2.tB, L2.tTest, L2.tOp, L2.tUn, L2.tNot, L2.tAnd, L2.tOr, L2.tIf, L2.tCall, L2.tTup, L2.tLst, L2.tNotT, L2.tYes, L2.gTup, L2.gCons, L2.gNil, L2.gSub, L2.tBM0, L2.tBM, L2.tWhile, L2.tFor, L2.iRng1, L2.iRng2, L2.tAugS, Tw.iEnumT, L2.tCKw, L2.tAug, L2.ipI, RT.iRevA, L2.tPar, L2.tPar3, L2.tSl, L2.tNoPart, L2.tPart, Tw.tRevT, Tw.tFput])
namespace K43
open PySem PySem.Spec PyProof.Rows L2 Tw
/-! what the law says of sayings -/
theorem say_d : ∀ {s : Say}, s.ok → say s.d = some s
  | .tt, _ => by rw [Say.d, say_str, bw_tt]; rfl
  | .ff, _ => by rw [Say.d, say_str, bw_ff]; rfl
  | .nn s, h => by rw [Say.d, say_str, bw_nn, says1, say_d (s := s) h]; rfl
  | .bo true s t, h => by rw [Say.d, if_pos rfl, say_str, bw_bo, says2, say_d (s := s) h.1, say_d (s := t) h.2]; rfl
  | .bo false s t, h => by rw [Say.d, if_neg Bool.false_ne_true, say_str, bw_ei, says2, say_d (s := s) h.1, say_d (s := t) h.2]; rfl
  | .qu true x s, h => by
    rw [Say.d, if_pos rfl, say_str, bw_al, says2, say_d (s := s) h]
    cases x <;> rfl
  | .qu false x s, h => by
    rw [Say.d, if_neg Bool.false_ne_true, say_str, bw_so, says2, say_d (s := s) h]
    cases x <;> rfl
  | .re w p, h => by
    rw [Say.d, say_str, bw_re h.1]
    show (if smallB p = true then some (Say.re w p) else none) = _
    rw [if_pos h.2]
theorem depth_dep_le : ∀ s : Say, s.depth ≤ dep s.d
  | .tt => by decide
  | .ff => by decide
  | .nn s => by
    have := depth_dep_le s
    rw [Say.d, dep, dep1, dep1, dep1, depth_nn]; omega
  | .bo b s t => by
    have := depth_dep_le s
    have := depth_dep_le t
    rw [Say.d, dep, dep1, dep1, dep1, dep1, depth_bo]; omega
  | .qu al x s => by
    have := depth_dep_le s
    rw [Say.d, dep, dep1, dep1, dep1, dep1, depth_qu]; omega
  | .re w p => by
    rw [Say.d, dep]
    show 1 ≤ _
    omega
theorem polys_nd : ∀ s : Say, s.polys.length ≤ nd s.d
  | .tt => Nat.zero_le _
  | .ff => Nat.zero_le _
  | .nn s => by
    have := polys_nd s
    show s.polys.length ≤ _
    rw [Say.d, nd, nd1, nd1, nd1]; omega
  | .bo b s t => by
    have := polys_nd s
    have := polys_nd t
    have := un_len s.polys t.polys
    show (un s.polys t.polys).length ≤ _
    rw [Say.d, nd, nd1, nd1, nd1, nd1]; omega
  | .qu al x s => by
    have := polys_nd s
    show s.polys.length ≤ _
    rw [Say.d, nd, nd1, nd1, nd1, nd1]; omega
  | .re w p => by
    show 1 ≤ _
    exact nd_pos _
theorem lay1_of : ∀ {ds : List PyData}, (∀ d ∈ ds, d.canLay0 = true) → PyData.canLayAll0 ds = true
  | [], _ => rfl
  | d :: ds, h => by rw [PyData.canLayAll0, h d (by simp), lay1_of fun e m => h e (by simp [m])]; rfl
theorem dpt1_le {n : Nat} : ∀ {ds : List PyData}, (∀ d ∈ ds, PyData.depth d ≤ n) → PyData.depthAll ds ≤ n
  | [], _ => Nat.zero_le _
  | d :: ds, h => by
    rw [PyData.depthAll]
    exact Nat.max_le.mpr ⟨h d (by simp), dpt1_le fun e he => h e (by simp [he])⟩
theorem whole_lay {d : PyData} (h : wholeB d = true) : d.canLay0 = true ∧ PyData.depth d ≤ 0 := by
  cases d <;> first | exact ⟨rfl, Nat.le_refl _⟩ | (simp [wholeB, isIntD, isBoolD] at h)
theorem row_lay {d : PyData} (h : rowB d = true) : d.canLay0 = true ∧ PyData.depth d ≤ 1 := by
  cases d with
  | tuple ds =>
    unfold rowB at h
    rw [Bool.and_eq_true] at h
    refine ⟨by rw [PyData.canLay0]; exact lay1_of fun e m => (whole_lay (all_mem h.1 m)).1, ?_⟩
    rw [PyData.depth]
    exact Nat.succ_le_succ (dpt1_le fun e m => (whole_lay (all_mem h.1 m)).2)
  | _ => cases h
theorem poly_lay {d : PyData} (h : polyB d = true) : d.canLay0 = true ∧ PyData.depth d ≤ 2 := by
  cases d with
  | tuple ds =>
    unfold polyB at h
    rw [Bool.and_eq_true] at h
    refine ⟨by rw [PyData.canLay0]; exact lay1_of fun e m => (row_lay (all_mem h.1 m)).1, ?_⟩
    rw [PyData.depth]
    exact Nat.succ_le_succ (dpt1_le fun e m => (row_lay (all_mem h.1 m)).2)
  | _ => cases h
theorem small_poly {d : PyData} (h : smallB d = true) : polyB d = true := by
  unfold smallB at h
  rw [Bool.and_eq_true, Bool.and_eq_true] at h
  exact h.1.1
theorem small_shaped {d : PyData} (h : smallB d = true) : SeqAt.shaped d = true := by
  have := poly_lay (small_poly h)
  unfold SeqAt.shaped
  rw [this.1, decide_eq_true (by omega)]
  rfl
theorem smalls_lay {ds : List PyData} (h : ∀ d ∈ ds, smallB d = true) : (PyData.list ds).canLay0 = true := by
  rw [PyData.canLay0]
  exact lay1_of fun e m => (poly_lay (small_poly (h e m))).1
theorem smalls_shaped {ds : List PyData} (h : ∀ d ∈ ds, smallB d = true) : SeqAt.shaped (.list ds) = true := by
  unfold SeqAt.shaped
  rw [smalls_lay h]
  have : PyData.depth (.list ds) ≤ 3 := by
    rw [PyData.depth]
    exact Nat.succ_le_succ (dpt1_le fun e m => (poly_lay (small_poly (h e m))).2)
  rw [decide_eq_true (by omega)]
  rfl
theorem da_lst {a : Addr} {H : Hp} {v : V} {ds : List PyData} (h : Da a H v (.list ds)) : ∃ p xs, v = .ref p ∧ p ≠ a ∧ H p = some (.lst xs) ∧ DaAll a H xs ds := by
  cases h with
  | lst n e r => exact ⟨_, _, rfl, n, e, r⟩
section
variable {K : PySem.W.Frag} {a : Addr} {wi : TI} {j : Nat} {tt : TT} {te : TE} {vs : List Nat} {σ : L2.St} {H : Hp} {Q : VK} {ds : List PyData}
/-- [d for d in a list of data if f(d)] -/
theorem lc_filtD (f : PyData → Bool) (wa : H a ≠ none)
    (hi : ∀ R : It → Hp → Prop, (∀ p xs H1, Same H H1 → H1 p = some (.lst xs) → DaAll a H1 xs ds → R (Itl K p) H1) → wi σ H R)
    (hl : ds.length ≤ 100000) (hw : ∀ x, wipe ((wipe σ vs).set j (some x)) vs = wipe σ vs)
    (ht : ∀ x d H1, d ∈ ds → Same H H1 → Da a H1 x d → ∀ R : Bool → Hp → Prop, (∀ H2, Same H1 H2 → R (f d) H2) → tt ((wipe σ vs).set j (some x)) H1 R)
    (he : ∀ x H1 (R : VK), R x H1 → te ((wipe σ vs).set j (some x)) H1 R)
    (q : ∀ D H', Same H H' → Da a H' (.ref D) (.list (ds.filter f)) → Q (.ref D) H') : tLc wi (gName j) tt te vs σ H Q := by
  refine hi _ fun p xs H1 s1 hp hx D hD => ?_
  refine lc_list (xs := xs) (fun m H' => Same H1 H' ∧ ∃ zs, H' D = some (.lst zs) ∧ DaAll a H1 zs ((ds.take m).filter f)) ⟨same_new hD, [], upd_same, .nil⟩ (fun m H' _ h => SqL.of (h.1 _ _ hp)) (fun m x H2 hxm h => ?_) (fun H' h => ?_)
  · obtain ⟨h1, zs, h2, h3⟩ := h
    obtain ⟨d, e1, e2⟩ := hx.get hxm
    have hm : m < ds.length := (List.getElem?_eq_some_iff.mp e1).1
    have et : (ds.take (m + 1)).filter f = (ds.take m).filter f ++ (if f d then [d] else []) := by
      rw [List.take_add_one, e1, List.filter_append]
      congr 1
      cases hf : f d <;> simp [hf]
    refine ⟨hw _, ht x d H2 (List.mem_of_getElem? e1) (s1.trans h1) (e2.same h1) _ fun H3 s3 => ?_⟩
    cases hf : f d with
    | true =>
      refine iteT (he x H3 _ ⟨_, s3 _ _ h2, ?_, same_upd (h1.trans s3) hD, _, upd_same, ?_⟩)
      · have := List.length_filter_le f (ds.take m)
        rw [List.length_take] at this
        rw [h3.len]
        exact lt_line (by omega)
      · rw [et, hf, if_pos rfl]
        exact h3.append (.cons e2 .nil)
    | false =>
      refine iteF ⟨h1.trans s3, zs, s3 _ _ h2, ?_⟩
      rw [et, hf, if_neg Bool.false_ne_true, List.append_nil]
      exact h3
  · obtain ⟨h1, zs, h2, h3⟩ := h
    rw [hx.len, List.take_length] at h3
    exact q D H' (s1.trans h1) (.lst (new_ne (same_some s1 wa) hD) h2 (h3.same h1))
/-- [f(d) for d in a tuple of data] -/
theorem lc_mapI (f : PyData → V)
    (hi : ∀ R : It → Hp → Prop, (∀ p xs H1, Same H H1 → H1 p = some (.tup xs) → DaAll a H1 xs ds → R (Itt K p) H1) → wi σ H R)
    (hl : ds.length < 100000) (hw : ∀ x, wipe ((wipe σ vs).set j (some x)) vs = wipe σ vs)
    (he : ∀ x d H1, d ∈ ds → Same H H1 → Da a H1 x d → ∀ R : VK, (∀ H2, Same H1 H2 → R (f d) H2) → te ((wipe σ vs).set j (some x)) H1 R)
    (q : ∀ D H', Same H H' → H' D = some (.lst (ds.map f)) → Q (.ref D) H') : tLc wi (gName j) tYes te vs σ H Q := by
  refine hi _ fun p xs H0 s0 hp hx D hD => ?_
  refine lc_tup (xs := xs) (fun m H' => Same H0 H' ∧ H' D = some (.lst ((ds.take m).map f))) ⟨same_new hD, upd_same⟩ (fun m H' _ h => SqT.of (h.1 _ _ hp)) (fun m x H1 hxm h => ?_) (fun H' h => ?_)
  · obtain ⟨h1, h2⟩ := h
    obtain ⟨d, e1, e2⟩ := hx.get hxm
    have hm : m < xs.length := (List.getElem?_eq_some_iff.mp hxm).1
    have hxl := hx.len
    refine ⟨hw x, ?_⟩
    unfold tYes
    simp only [if_true]
    refine he x d H1 (List.mem_of_getElem? e1) (s0.trans h1) (e2.same h1) _ fun H2 s2 => ⟨(ds.take m).map f, s2 _ _ h2, ?_, same_upd (h1.trans s2) hD, ?_⟩
    · rw [List.length_map, List.length_take]; exact lt_line (by omega)
    · rw [upd_same, Tw.take_map f e1]
  · obtain ⟨h1, h2⟩ := h
    rw [hx.len, List.take_length] at h2
    exact q D H' (s0.trans h1) h2
end
theorem for_tup {K : PySem.W.Frag} {a : Addr} {xs : List V} {B : (L2.St → Hp → Prop) → V → L2.St → Hp → Prop} {nx : L2.St → Hp → Prop} {σ : L2.St} {H : Hp} (Pv : Nat → L2.St → Hp → Prop) (h0 : Pv 0 σ H)
    (hl : ∀ i σ' H', i ≤ xs.length → Pv i σ' H' → SqT K H' a xs)
    (hs : ∀ (i : Nat) x σ' H', xs[i]? = some x → Pv i σ' H' → B (Pv (i + 1)) x σ' H') (hd : ∀ σ' H', Pv xs.length σ' H' → nx σ' H') :
    ∃ W : Nat → Nat → L2.St → Hp → Prop, (∃ m, W 0 m σ H) ∧ ∀ i m σ H, W i m σ H →
      ((Itt K a).stop i H ∧ nx σ H) ∨ ((Itt K a).go i H ∧ ∃ N : L2.St → Hp → Prop, (∀ σ' H', N σ' H' → ∃ m', m' < m ∧ W (i + 1) m' σ' H') ∧ ∀ x H', (Itt K a).yld i H x H' → B N x σ H') := by
  refine ⟨fun i m σ H => m = xs.length - i ∧ i ≤ xs.length ∧ Pv i σ H, ⟨xs.length, by simp, Nat.zero_le _, h0⟩, ?_⟩
  rintro i m σ' H' ⟨rfl, hi, p⟩
  have ql := hl i σ' H' hi p
  by_cases c : i < xs.length
  · refine Or.inr ⟨⟨xs, xs[i], ql, by simp [c]⟩, Pv (i + 1), fun σ2 H2 p2 => ⟨xs.length - (i + 1), by omega, rfl, c, p2⟩, fun x H2 y => ?_⟩
    obtain ⟨e1, e2⟩ := y
    subst e1
    exact hs i x σ' _ (e2 xs ql) p
  · have e : i = xs.length := by omega
    subst e
    exact Or.inl ⟨⟨xs, ql, Nat.le_refl _⟩, hd σ' H' p⟩
def acc (l : List Say) : List PyData := l.foldl (fun ps s => un ps s.polys) []
theorem acc_snoc (l : List Say) (s : Say) : acc (l ++ [s]) = un (acc l) s.polys := by unfold acc; rw [List.foldl_append]; rfl
theorem acc_len : ∀ (l : List Say), (acc l).length ≤ nd1 (l.map Say.d) := by
  have key : ∀ (l : List Say) (ps : List PyData), (l.foldl (fun ps s => un ps s.polys) ps).length ≤ ps.length + nd1 (l.map Say.d) := fun l => by
    induction l with
    | nil => intro ps; exact Nat.le_add_right _ _
    | cons s l ih =>
      intro ps
      have h1 := ih (un ps s.polys)
      have h2 := un_len ps s.polys
      have h3 := polys_nd s
      rw [List.foldl_cons, List.map_cons, nd1]
      omega
  intro l
  have := key l []
  unfold acc
  simpa using this
theorem acc_small : ∀ {l : List Say}, (∀ s ∈ l, s.ok) → ∀ p ∈ acc l, smallB p = true := by
  have key : ∀ (l : List Say) (ps : List PyData), (∀ s ∈ l, s.ok) → (∀ p ∈ ps, smallB p = true) → ∀ p ∈ l.foldl (fun ps s => un ps s.polys) ps, smallB p = true := fun l => by
    induction l with
    | nil => intro ps _ h p m; exact h p m
    | cons s l ih =>
      intro ps ho h p m
      refine ih _ (fun t ht => ho t (by simp [ht])) (fun r hr => ?_) p m
      exact (un_mem hr).elim (h r) (Say.polys_small (ho s (by simp)) r)
  intro l ho
  exact key l [] ho fun p m => nomatch m
def spLPolys (N : Nat) : Sp := fun vs H Q _ => ∃ (a : Addr) (v : V) (s : Say), vs = [v] ∧ H a ≠ none ∧ Da a H v s.d ∧ s.ok ∧ s.depth ≤ N ∧ nd s.d ≤ 50000 ∧ ∀ L H', Same H H' → Da a H' (.ref L) (.list s.polys) → Q (.ref L) H'
section
variable {P : Program} {w : World} {K : PySem.W.Frag} {mg : Str → Option Value} {base : Heap}
theorem scPolys : FnScope ["_law_said", "_law_found", "_law_part", "_law_each"] ["_law_said"] (defScope sPolys) := ⟨rfl, rfl, rfl, by decide +kernel, rfl, by decide +kernel, by decide +kernel⟩
theorem polys_step {N : Nat} (D : Def K mg "_law_polys" sPolys ["_law_said"]) (nb : Nb mg) (c : Cal P w K mg base "_law_polys" (N + 1) ["_law_said"] (spLPolys N)) : Cal P w K mg base "_law_polys" (N + 2) ["_law_said"] (spLPolys (N + 1)) := by
  refine D.ok scPolys (fun vs H Q E h => ?_) (fun f cdv A out s H vs Q E hr h => ?_)
  · obtain ⟨a, v, t, rfl, _⟩ := h; rfl
  obtain ⟨a, v, t, rfl, ha, hd, ho, hN, hw, q⟩ := h
  have hu65 : (A.deeper (envOfC "_law_polys" (defScope sPolys) s.heap.objs.size f cdv)).units + 65 < cLine := by have := hr.un; omega
  refine ⟨_, (pss_cons (ps_if (pt_cmpR op_eq (pe_callB (id := "len") (r := rLn K) call_len_seq (by rfl) nb.len PySem.boot_len (pa_cons (pv 0) pa_nil)) pe_int (nomark _)) (pss_one (ps_ret (pe_lst pa_nil))) pss_nil)
    (pss_cons (ps_if (pt_cmpR op_in_seq (pe_ix (r := rIxT K) ix_tup (pv 0) pe_int (fun _ _ => rfl)) (pe_tup (pa_cons pe_str (pa_cons pe_str pa_nil))) (by rfl)) (pss_one (ps_ret (pe_cal c hr (by omega) (by rfl) (pa_cons (pe_ix (r := rIxT K) ix_tup (pv 0) pe_int (fun _ _ => rfl)) pa_nil)))) pss_nil)
    (pss_cons (ps_if (pt_cmpR op_notIn_seq (pe_ix (r := rIxT K) ix_tup (pv 0) pe_int (fun _ _ => rfl)) (pe_tup (pa_cons pe_str (pa_cons pe_str (pa_cons pe_str pa_nil)))) (by rfl)) (pss_one (ps_ret (pe_lst (pa_cons (pe_ix (r := rIxT K) ix_tup (pv 0) pe_int (fun _ _ => rfl)) pa_nil)))) pss_nil)
    (pss_cons (ps_set (i := 1) scPolys.nd rfl (Or.inr rfl) (pe_lst pa_nil))
    (pss_cons (ps_for PassesOwn.never rfl (pi_tup (pe_slice sl_tupA (pv 0) (po_some pe_int) po_none)) (pg_name (i := 2) scPolys.nd rfl (Or.inl rfl)) (pss_one (ps_set (i := 1) scPolys.nd rfl (Or.inr rfl) (pe_op op_cat (pv 1) (pe_lc (own := [("_law_each", 3)]) (g := gName 3) (tt := _) rfl scPolys.nd (pi_list (pe_cal c hr (by omega) (by rfl) (pa_cons (pv 2) pa_nil))) (blkOk_by (N := ["_law_said", "_law_found", "_law_part", "_law_each"]) (sc := defScope sPolys) (by decide +kernel)) (fun _ _ _ _ _ => pg_name (i := 3) scPolys.nd rfl (Or.inl rfl)) (fun _ _ _ _ _ => pts_one (pt_cmpR (r := rNotInD K) (op_notInD hu65) (pv 3) (pv 1) (by rfl))) (fun _ _ _ _ _ => (pv 3)))))))
    (pss_one (ps_ret (pv 1)))))))), ?_⟩
  walk_at "rd"
  obtain ⟨p, xs, ds, rfl, hds, np, hp, hx⟩ := tup_of hd (by cases t <;> rfl)
  cases t with
  | tt =>
    cases hds
    refine ⟨.ref p, rfl, p, xs, rfl, .inr (SqT.of hp), rfl, _, rfl, ?_⟩
    rw [hx.len]
    refine ite2 (fun z => ⟨sz (by decide), fun L nL => ?_⟩) (fun z => absurd (decide_eq_true rfl) z)
    obtain ⟨s4, d4⟩ := newL ha DaAll.nil nL
    exact q L _ s4 d4
  | ff =>
    cases hds
    refine ⟨.ref p, rfl, p, xs, rfl, .inr (SqT.of hp), rfl, _, rfl, ?_⟩
    rw [hx.len]
    refine ite2 (fun z => ⟨sz (by decide), fun L nL => ?_⟩) (fun z => absurd (decide_eq_true rfl) z)
    obtain ⟨s4, d4⟩ := newL ha DaAll.nil nL
    exact q L _ s4 d4
  | nn u =>
    cases hds
    rw [depth_nn] at hN
    have hw : nd1 (([u] : List Say).map Say.d) ≤ 50000 := by
      have z := hw
      rw [Say.d, nd, nd1] at z
      exact Nat.le_trans (Nat.le_add_left _ _) (Nat.le_of_succ_le z)
    have hps : ∀ r ∈ ([u] : List Say), r.ok ∧ r.depth ≤ N := fun r hr => by rw [List.mem_singleton.mp hr]; exact ⟨ho, by omega⟩
    have hacc : acc [u] = u.polys := by show un [] u.polys = _; rw [un_nil]
    refine ⟨.ref p, rfl, p, xs, rfl, .inr (SqT.of hp), rfl, _, rfl, ?_⟩
    rw [hx.len]
    refine ite2 (fun z => absurd (veq z) (by simp)) (fun _ => ?_)
    refine ⟨.ref p, rfl, ix_at (n := 0) hd rfl fun x hx0 => ?_⟩
    cases hx0
    refine in_new (l := ["all", "some"]) rfl (by decide) fun H2 s2 => iteF ⟨.ref p, rfl, ix_at (n := 0) (hd.same s2) rfl fun x hx0 => ?_⟩
    cases hx0
    refine notIn_new (l := ["not", "both", "either"]) rfl (by decide) fun H3 s3 => iteF ?_
    have s3 := s2.trans s3
    refine ⟨sz (by decide), fun L0 nL0 => ?_⟩
    obtain ⟨s4, d4⟩ := newL (same_some s3 ha) DaAll.nil nL0
    generalize upd H3 L0 (.lst []) = H4 at s4 d4 ⊢
    have s4 := s3.trans s4
    refine ⟨.ref p, rfl, 1, rfl, ?_⟩
    walk_at "rd"
    refine sl_da (same_some s4 ha) (hd.same s4) fun v5 H5 s5 hd5 => ?_
    rw [cut1] at hd5
    obtain ⟨p1, xs1, rfl, np1, hp1, hx1⟩ := da_tup hd5
    have s45 := s4.trans s5
    have ha5 := same_some s45 ha
    have ln : xs1.length = ([u] : List Say).length := by rw [hx1.len]; rfl
    refine ⟨p1, rfl, ⟨_, SqT.of hp1⟩, for_tup (xs := xs1) (fun i σ H' => ∃ (L : Addr) (x2 : Option V), σ = [some (.ref p), some (.ref L), x2, none] ∧ Same H5 H' ∧ Da a H' (.ref L) (.list (acc (([u] : List Say).take i)))) ?_ ?_ ?_ ?_⟩
    · exact ⟨L0, none, rfl, Same.refl _, d4.same s5⟩
    · rintro i σ H6 hi ⟨L, x2, rfl, s6, dL⟩
      exact SqT.of (s6 _ _ hp1)
    · rintro i x σ H6 hxi ⟨L, x2, rfl, s6, dL⟩
      obtain ⟨d, e1, dx⟩ := hx1.get hxi
      obtain ⟨si, hsi, rfl⟩ : ∃ si, ([u] : List Say)[i]? = some si ∧ si.d = d := by
        have e1 : (([u] : List Say).map Say.d)[i]? = some d := e1
        rw [List.getElem?_map] at e1
        cases h : ([u] : List Say)[i]? with
        | none => rw [h] at e1; cases e1
        | some y => rw [h] at e1; cases e1; exact ⟨y, rfl, rfl⟩
      obtain ⟨oki, dpi⟩ := hps si (List.mem_of_getElem? hsi)
      have ndi : nd si.d ≤ nd1 (([u] : List Say).map Say.d) := nd1_mem (List.mem_map_of_mem (List.mem_of_getElem? hsi))
      have pli := polys_nd si
      have psm := Say.polys_small oki
      have asm : ∀ r ∈ acc (([u] : List Say).take i), smallB r = true := acc_small fun r hr => (hps r (List.mem_of_mem_take hr)).1
      have ha6 := same_some s6 ha5
      have all := acc_len (([u] : List Say).take i)
      rw [List.map_take] at all
      have all2 := nd1_take (([u] : List Say).map Say.d) i
      refine ⟨.ref L, rfl, ?_⟩
      refine lc_filtD (K := K) (fun r => !inK (acc (([u] : List Say).take i)) r) ha6 (fun R hR => ⟨x, rfl, a, x, si, rfl, ha6, dx.same s6, oki, dpi, by omega, fun L7 H7 s7 d7 => ?_⟩) (Nat.le_trans (polys_nd si) (by omega)) (wipe1 _ 3) (fun y e H7 he s7 dy R hR => ?_) (fun y H7 R hR => ⟨_, rfl, hR⟩) fun D H7 s7 d7 => ?_
      · obtain ⟨q7, ys, e7, _, hq7, t7⟩ := da_lst d7
        cases e7
        exact ⟨L7, rfl, ⟨_, SqL.of hq7⟩, hR L7 ys H7 s7 hq7 t7⟩
      · refine ⟨y, rfl, .ref L, rfl, e, _, dy.dp (poly_lay (small_poly (psm e he))).1, (dL.same s7).dp (smalls_lay asm), small_shaped (psm e he), smalls_shaped asm, _, rfl, ?_⟩
        rw [any_inK (fun r hr => (small_k (asm r hr)).1) (small_k (psm e he)).1]
        exact hR H7 (Same.refl _)
      · obtain ⟨q8, ys, e8, n8, hq8, t8⟩ := da_lst d7
        cases e8
        obtain ⟨q9, zs, e9, n9, hq9, t9⟩ := da_lst (dL.same s7)
        cases e9
        have tot := t9.append t8
        have fl := List.length_filter_le (fun r => !inK (acc (([u] : List Say).take i)) r) si.polys
        refine ⟨L, D, zs, ys, rfl, rfl, hq9, hq8, Nat.le_trans ?_ (show 16777216 ≤ sizeLine by decide), fun t nt => ?_⟩
        · rw [t9.len, t8.len]; omega
        · obtain ⟨s10, d10⟩ := newL (same_some s7 ha6) tot nt
          refine ⟨t, some x, rfl, (s6.trans s7).trans s10, ?_⟩
          rw [List.take_add_one, hsi, Option.toList_some, acc_snoc]
          exact d10
    · rintro σ H6 ⟨L, x2, rfl, s6, dL⟩
      rw [ln, List.take_length, hacc] at dL
      exact ⟨.ref L, rfl, q L H6 (s45.trans s6) dL⟩
  | bo b u u2 =>
    rw [depth_bo] at hN
    cases b with
    | true =>
      cases hds
      have hw : nd1 (([u, u2] : List Say).map Say.d) ≤ 50000 := by
        have z := hw
        rw [Say.d, nd, nd1] at z
        exact Nat.le_trans (Nat.le_add_left _ _) (Nat.le_of_succ_le z)
      have hps : ∀ r ∈ ([u, u2] : List Say), r.ok ∧ r.depth ≤ N := fun r hr => by rcases List.mem_cons.mp hr with rfl | hr; exact ⟨ho.1, by omega⟩; rw [List.mem_singleton.mp hr]; exact ⟨ho.2, by omega⟩
      have hacc : acc [u, u2] = un u.polys u2.polys := by show un (un [] u.polys) u2.polys = _; rw [un_nil]
      refine ⟨.ref p, rfl, p, xs, rfl, .inr (SqT.of hp), rfl, _, rfl, ?_⟩
      rw [hx.len]
      refine ite2 (fun z => absurd (veq z) (by simp)) (fun _ => ?_)
      refine ⟨.ref p, rfl, ix_at (n := 0) hd rfl fun x hx0 => ?_⟩
      cases hx0
      refine in_new (l := ["all", "some"]) rfl (by decide) fun H2 s2 => iteF ⟨.ref p, rfl, ix_at (n := 0) (hd.same s2) rfl fun x hx0 => ?_⟩
      cases hx0
      refine notIn_new (l := ["not", "both", "either"]) rfl (by decide) fun H3 s3 => iteF ?_
      have s3 := s2.trans s3
      refine ⟨sz (by decide), fun L0 nL0 => ?_⟩
      obtain ⟨s4, d4⟩ := newL (same_some s3 ha) DaAll.nil nL0
      generalize upd H3 L0 (.lst []) = H4 at s4 d4 ⊢
      have s4 := s3.trans s4
      refine ⟨.ref p, rfl, 1, rfl, ?_⟩
      walk_at "rd"
      refine sl_da (same_some s4 ha) (hd.same s4) fun v5 H5 s5 hd5 => ?_
      rw [cut1] at hd5
      obtain ⟨p1, xs1, rfl, np1, hp1, hx1⟩ := da_tup hd5
      have s45 := s4.trans s5
      have ha5 := same_some s45 ha
      have ln : xs1.length = ([u, u2] : List Say).length := by rw [hx1.len]; rfl
      refine ⟨p1, rfl, ⟨_, SqT.of hp1⟩, for_tup (xs := xs1) (fun i σ H' => ∃ (L : Addr) (x2 : Option V), σ = [some (.ref p), some (.ref L), x2, none] ∧ Same H5 H' ∧ Da a H' (.ref L) (.list (acc (([u, u2] : List Say).take i)))) ?_ ?_ ?_ ?_⟩
      · exact ⟨L0, none, rfl, Same.refl _, d4.same s5⟩
      · rintro i σ H6 hi ⟨L, x2, rfl, s6, dL⟩
        exact SqT.of (s6 _ _ hp1)
      · rintro i x σ H6 hxi ⟨L, x2, rfl, s6, dL⟩
        obtain ⟨d, e1, dx⟩ := hx1.get hxi
        obtain ⟨si, hsi, rfl⟩ : ∃ si, ([u, u2] : List Say)[i]? = some si ∧ si.d = d := by
          have e1 : (([u, u2] : List Say).map Say.d)[i]? = some d := e1
          rw [List.getElem?_map] at e1
          cases h : ([u, u2] : List Say)[i]? with
          | none => rw [h] at e1; cases e1
          | some y => rw [h] at e1; cases e1; exact ⟨y, rfl, rfl⟩
        obtain ⟨oki, dpi⟩ := hps si (List.mem_of_getElem? hsi)
        have ndi : nd si.d ≤ nd1 (([u, u2] : List Say).map Say.d) := nd1_mem (List.mem_map_of_mem (List.mem_of_getElem? hsi))
        have pli := polys_nd si
        have psm := Say.polys_small oki
        have asm : ∀ r ∈ acc (([u, u2] : List Say).take i), smallB r = true := acc_small fun r hr => (hps r (List.mem_of_mem_take hr)).1
        have ha6 := same_some s6 ha5
        have all := acc_len (([u, u2] : List Say).take i)
        rw [List.map_take] at all
        have all2 := nd1_take (([u, u2] : List Say).map Say.d) i
        refine ⟨.ref L, rfl, ?_⟩
        refine lc_filtD (K := K) (fun r => !inK (acc (([u, u2] : List Say).take i)) r) ha6 (fun R hR => ⟨x, rfl, a, x, si, rfl, ha6, dx.same s6, oki, dpi, by omega, fun L7 H7 s7 d7 => ?_⟩) (Nat.le_trans (polys_nd si) (by omega)) (wipe1 _ 3) (fun y e H7 he s7 dy R hR => ?_) (fun y H7 R hR => ⟨_, rfl, hR⟩) fun D H7 s7 d7 => ?_
        · obtain ⟨q7, ys, e7, _, hq7, t7⟩ := da_lst d7
          cases e7
          exact ⟨L7, rfl, ⟨_, SqL.of hq7⟩, hR L7 ys H7 s7 hq7 t7⟩
        · refine ⟨y, rfl, .ref L, rfl, e, _, dy.dp (poly_lay (small_poly (psm e he))).1, (dL.same s7).dp (smalls_lay asm), small_shaped (psm e he), smalls_shaped asm, _, rfl, ?_⟩
          rw [any_inK (fun r hr => (small_k (asm r hr)).1) (small_k (psm e he)).1]
          exact hR H7 (Same.refl _)
        · obtain ⟨q8, ys, e8, n8, hq8, t8⟩ := da_lst d7
          cases e8
          obtain ⟨q9, zs, e9, n9, hq9, t9⟩ := da_lst (dL.same s7)
          cases e9
          have tot := t9.append t8
          have fl := List.length_filter_le (fun r => !inK (acc (([u, u2] : List Say).take i)) r) si.polys
          refine ⟨L, D, zs, ys, rfl, rfl, hq9, hq8, Nat.le_trans ?_ (show 16777216 ≤ sizeLine by decide), fun t nt => ?_⟩
          · rw [t9.len, t8.len]; omega
          · obtain ⟨s10, d10⟩ := newL (same_some s7 ha6) tot nt
            refine ⟨t, some x, rfl, (s6.trans s7).trans s10, ?_⟩
            rw [List.take_add_one, hsi, Option.toList_some, acc_snoc]
            exact d10
      · rintro σ H6 ⟨L, x2, rfl, s6, dL⟩
        rw [ln, List.take_length, hacc] at dL
        exact ⟨.ref L, rfl, q L H6 (s45.trans s6) dL⟩
    | false =>
      cases hds
      have hw : nd1 (([u, u2] : List Say).map Say.d) ≤ 50000 := by
        have z := hw
        rw [Say.d, nd, nd1] at z
        exact Nat.le_trans (Nat.le_add_left _ _) (Nat.le_of_succ_le z)
      have hps : ∀ r ∈ ([u, u2] : List Say), r.ok ∧ r.depth ≤ N := fun r hr => by rcases List.mem_cons.mp hr with rfl | hr; exact ⟨ho.1, by omega⟩; rw [List.mem_singleton.mp hr]; exact ⟨ho.2, by omega⟩
      have hacc : acc [u, u2] = un u.polys u2.polys := by show un (un [] u.polys) u2.polys = _; rw [un_nil]
      refine ⟨.ref p, rfl, p, xs, rfl, .inr (SqT.of hp), rfl, _, rfl, ?_⟩
      rw [hx.len]
      refine ite2 (fun z => absurd (veq z) (by simp)) (fun _ => ?_)
      refine ⟨.ref p, rfl, ix_at (n := 0) hd rfl fun x hx0 => ?_⟩
      cases hx0
      refine in_new (l := ["all", "some"]) rfl (by decide) fun H2 s2 => iteF ⟨.ref p, rfl, ix_at (n := 0) (hd.same s2) rfl fun x hx0 => ?_⟩
      cases hx0
      refine notIn_new (l := ["not", "both", "either"]) rfl (by decide) fun H3 s3 => iteF ?_
      have s3 := s2.trans s3
      refine ⟨sz (by decide), fun L0 nL0 => ?_⟩
      obtain ⟨s4, d4⟩ := newL (same_some s3 ha) DaAll.nil nL0
      generalize upd H3 L0 (.lst []) = H4 at s4 d4 ⊢
      have s4 := s3.trans s4
      refine ⟨.ref p, rfl, 1, rfl, ?_⟩
      walk_at "rd"
      refine sl_da (same_some s4 ha) (hd.same s4) fun v5 H5 s5 hd5 => ?_
      rw [cut1] at hd5
      obtain ⟨p1, xs1, rfl, np1, hp1, hx1⟩ := da_tup hd5
      have s45 := s4.trans s5
      have ha5 := same_some s45 ha
      have ln : xs1.length = ([u, u2] : List Say).length := by rw [hx1.len]; rfl
      refine ⟨p1, rfl, ⟨_, SqT.of hp1⟩, for_tup (xs := xs1) (fun i σ H' => ∃ (L : Addr) (x2 : Option V), σ = [some (.ref p), some (.ref L), x2, none] ∧ Same H5 H' ∧ Da a H' (.ref L) (.list (acc (([u, u2] : List Say).take i)))) ?_ ?_ ?_ ?_⟩
      · exact ⟨L0, none, rfl, Same.refl _, d4.same s5⟩
      · rintro i σ H6 hi ⟨L, x2, rfl, s6, dL⟩
        exact SqT.of (s6 _ _ hp1)
      · rintro i x σ H6 hxi ⟨L, x2, rfl, s6, dL⟩
        obtain ⟨d, e1, dx⟩ := hx1.get hxi
        obtain ⟨si, hsi, rfl⟩ : ∃ si, ([u, u2] : List Say)[i]? = some si ∧ si.d = d := by
          have e1 : (([u, u2] : List Say).map Say.d)[i]? = some d := e1
          rw [List.getElem?_map] at e1
          cases h : ([u, u2] : List Say)[i]? with
          | none => rw [h] at e1; cases e1
          | some y => rw [h] at e1; cases e1; exact ⟨y, rfl, rfl⟩
        obtain ⟨oki, dpi⟩ := hps si (List.mem_of_getElem? hsi)
        have ndi : nd si.d ≤ nd1 (([u, u2] : List Say).map Say.d) := nd1_mem (List.mem_map_of_mem (List.mem_of_getElem? hsi))
        have pli := polys_nd si
        have psm := Say.polys_small oki
        have asm : ∀ r ∈ acc (([u, u2] : List Say).take i), smallB r = true := acc_small fun r hr => (hps r (List.mem_of_mem_take hr)).1
        have ha6 := same_some s6 ha5
        have all := acc_len (([u, u2] : List Say).take i)
        rw [List.map_take] at all
        have all2 := nd1_take (([u, u2] : List Say).map Say.d) i
        refine ⟨.ref L, rfl, ?_⟩
        refine lc_filtD (K := K) (fun r => !inK (acc (([u, u2] : List Say).take i)) r) ha6 (fun R hR => ⟨x, rfl, a, x, si, rfl, ha6, dx.same s6, oki, dpi, by omega, fun L7 H7 s7 d7 => ?_⟩) (Nat.le_trans (polys_nd si) (by omega)) (wipe1 _ 3) (fun y e H7 he s7 dy R hR => ?_) (fun y H7 R hR => ⟨_, rfl, hR⟩) fun D H7 s7 d7 => ?_
        · obtain ⟨q7, ys, e7, _, hq7, t7⟩ := da_lst d7
          cases e7
          exact ⟨L7, rfl, ⟨_, SqL.of hq7⟩, hR L7 ys H7 s7 hq7 t7⟩
        · refine ⟨y, rfl, .ref L, rfl, e, _, dy.dp (poly_lay (small_poly (psm e he))).1, (dL.same s7).dp (smalls_lay asm), small_shaped (psm e he), smalls_shaped asm, _, rfl, ?_⟩
          rw [any_inK (fun r hr => (small_k (asm r hr)).1) (small_k (psm e he)).1]
          exact hR H7 (Same.refl _)
        · obtain ⟨q8, ys, e8, n8, hq8, t8⟩ := da_lst d7
          cases e8
          obtain ⟨q9, zs, e9, n9, hq9, t9⟩ := da_lst (dL.same s7)
          cases e9
          have tot := t9.append t8
          have fl := List.length_filter_le (fun r => !inK (acc (([u, u2] : List Say).take i)) r) si.polys
          refine ⟨L, D, zs, ys, rfl, rfl, hq9, hq8, Nat.le_trans ?_ (show 16777216 ≤ sizeLine by decide), fun t nt => ?_⟩
          · rw [t9.len, t8.len]; omega
          · obtain ⟨s10, d10⟩ := newL (same_some s7 ha6) tot nt
            refine ⟨t, some x, rfl, (s6.trans s7).trans s10, ?_⟩
            rw [List.take_add_one, hsi, Option.toList_some, acc_snoc]
            exact d10
      · rintro σ H6 ⟨L, x2, rfl, s6, dL⟩
        rw [ln, List.take_length, hacc] at dL
        exact ⟨.ref L, rfl, q L H6 (s45.trans s6) dL⟩
  | qu al x1 u =>
    cases al with
    | true =>
      cases hds
      refine ⟨.ref p, rfl, p, xs, rfl, .inr (SqT.of hp), rfl, _, rfl, ?_⟩
      rw [hx.len]
      refine ite2 (fun z => absurd (veq z) (by simp)) (fun _ => ?_)
      refine ⟨.ref p, rfl, ix_at (n := 0) hd rfl fun x hx0 => ?_⟩
      cases hx0
      refine in_new (l := ["all", "some"]) rfl (by decide) fun H2 s2 => iteT ⟨.ref p, rfl, ix_at (n := 2) (hd.same s2) rfl fun x hx0 => ⟨a, x, u, rfl, same_some s2 ha, hx0, ho, by rw [depth_qu] at hN; omega, ?_, fun L H3 s3 d3 => q L H3 (s2.trans s3) d3⟩⟩
      have z := hw
      rw [Say.d, nd, nd1, nd1, nd1] at z
      omega
    | false =>
      cases hds
      refine ⟨.ref p, rfl, p, xs, rfl, .inr (SqT.of hp), rfl, _, rfl, ?_⟩
      rw [hx.len]
      refine ite2 (fun z => absurd (veq z) (by simp)) (fun _ => ?_)
      refine ⟨.ref p, rfl, ix_at (n := 0) hd rfl fun x hx0 => ?_⟩
      cases hx0
      refine in_new (l := ["all", "some"]) rfl (by decide) fun H2 s2 => iteT ⟨.ref p, rfl, ix_at (n := 2) (hd.same s2) rfl fun x hx0 => ⟨a, x, u, rfl, same_some s2 ha, hx0, ho, by rw [depth_qu] at hN; omega, ?_, fun L H3 s3 d3 => q L H3 (s2.trans s3) d3⟩⟩
      have z := hw
      rw [Say.d, nd, nd1, nd1, nd1] at z
      omega
  | re wd pl =>
    cases hds
    refine ⟨.ref p, rfl, p, xs, rfl, .inr (SqT.of hp), rfl, _, rfl, ?_⟩
    rw [hx.len]
    refine ite2 (fun z => absurd (veq z) (by simp)) (fun _ => ?_)
    refine ⟨.ref p, rfl, ix_at (n := 0) hd rfl fun x hx0 => ?_⟩
    cases hx0
    refine in_new (l := ["all", "some"]) rfl (by decide) fun H2 s2 => ?_
    rw [rel_word ho.1 _ (by decide)]
    refine iteF ⟨.ref p, rfl, ix_at (n := 0) (hd.same s2) rfl fun x hx0 => ?_⟩
    cases hx0
    refine notIn_new (l := ["not", "both", "either"]) rfl (by decide) fun H3 s3 => ?_
    rw [rel_word ho.1 _ (by decide)]
    have s3 := s2.trans s3
    refine iteT ⟨.ref p, rfl, ix_at (n := 1) (hd.same s3) rfl fun x hx0 => ⟨sz (by simp), fun L nL => ?_⟩⟩
    obtain ⟨s4, d4⟩ := newL (same_some s3 ha) (DaAll.cons hx0 .nil) nL
    exact q L _ (s3.trans s4) d4
theorem polys_all (D : Def K mg "_law_polys" sPolys ["_law_said"]) (nb : Nb mg) : ∀ N : Nat, Cal P w K mg base "_law_polys" (N + 1) ["_law_said"] (spLPolys N)
  | 0 => by
    have no : ∀ vs H Q E, ¬ spLPolys 0 vs H Q E := fun vs H Q E h => by
      obtain ⟨a, v, s, _, _, _, _, h1, _⟩ := h
      have := s.depth_pos
      omega
    obtain ⟨f, fd, F, m, b⟩ := D
    exact ⟨f, fd, ⟨fun vs H Q E h => absurd h (no vs H Q E), fun A out s H g us vs Q E _ _ _ _ h => absurd h (no vs H Q E)⟩, m, F.kp, b, fdAt F⟩
  | N + 1 => polys_step D nb (polys_all D nb N)
end
end K43

set_option Elab.async false
set_option linter.all false
set_option maxRecDepth 100000
set_option maxHeartbeats 8000000
local macro_rules | `(tactic| walk_at "rd") => `(tactic| dsimp only [Evl.tCut, L2.tSeq, L2.tNext, L2.tRet, L2.tRetN, L2.tAsg, L2.gName, L2.tIfS, L2.tDrop, L2.tCons, L2.tNil, L2.tC, L2.tVar, L2.tCB, L2.tAndV, L2.tOrV, L2.tNotV, L2.tB, L2.tTest, L2.tOp, L2.tUn, L2.tNot, L2.tAnd, L2.tOr, L2.tIf, L2.tCall, L2.tTup, L2.tLst, L2.tNotT, L2.tYes, L2.gTup, L2.gCons, L2.gNil, L2.gSub, L2.tBM0, L2.tBM, L2.tWhile, L2.tFor, L2.iRng1, L2.iRng2, L2.tAugS, Tw.iEnumT, L2.tCKw, L2.tAug, L2.ipI, RT.iRevA, L2.tPar, L2.tPar3, L2.tSl, L2.tNoPart, L2.tPart, Tw.tRevT, Tw.tFput])
namespace K43
open PySem PySem.Spec PyProof.Rows L2 Tw
/-! free letters, as the law finds them -/
def frD (x : Bool) (d : PyData) : Bool := match say d with
  | some s => s.free x
  | none => false
theorem fr_d {x : Bool} {s : Say} (h : s.ok) : frD x s.d = s.free x := by unfold frD; rw [say_d h]
theorem wid_any (ds : List PyData) : (ds.map fun r => decide (1 < lenD r)).any id = decide (1 < widD (.tuple ds)) := by
  have key : ∀ l : List PyData, (l.map fun r => decide (1 < lenD r)).any id = decide (1 < l.foldr (fun r m => max (lenD r) m) 0) := fun l => by
    induction l with
    | nil => rfl
    | cons r l ih =>
      rw [List.map_cons, List.any_cons, ih, List.foldr_cons, Bool.eq_iff_iff]
      simp only [id, Bool.or_eq_true, decide_eq_true_eq]
      omega
  exact key ds
def spLFree (N : Nat) : Sp := fun vs H Q _ => ∃ (a : Addr) (v : V) (s : Say) (x : Bool), vs = [v, .str (if x then "x" else "y")] ∧ H a ≠ none ∧ Da a H v s.d ∧ s.ok ∧ s.depth ≤ N ∧ ∀ H', Same H H' → Q (.bl (s.free x)) H'
section
variable {P : Program} {w : World} {K : PySem.W.Frag} {mg : Str → Option Value} {base : Heap}
theorem scFree : FnScope ["_law_said", "_law_letter", "_law_each", "_law_row_here"] ["_law_said", "_law_letter"] (defScope sFree) := ⟨rfl, rfl, rfl, by decide +kernel, rfl, by decide +kernel, by decide +kernel⟩
theorem lfree_step {N : Nat} (D : Def K mg "_law_free" sFree ["_law_said", "_law_letter"]) (nb : Nb mg) (c : Cal P w K mg base "_law_free" (N + 1) ["_law_said", "_law_letter"] (spLFree N)) : Cal P w K mg base "_law_free" (N + 2) ["_law_said", "_law_letter"] (spLFree (N + 1)) := by
  refine D.ok scFree (fun vs H Q E h => ?_) (fun f cdv A out s H vs Q E hr h => ?_)
  · obtain ⟨a, v, t, x, rfl, _⟩ := h; rfl
  obtain ⟨a, v, t, x, rfl, ha, hd, ho, hN, q⟩ := h
  refine ⟨_, (pss_cons (ps_if (pt_cmpR op_in_seq (pe_ix (r := rIxT K) ix_tup (pv 0) pe_int (fun _ _ => rfl)) (pe_tup (pa_cons pe_str (pa_cons pe_str pa_nil))) (by rfl)) (pss_one (ps_ret (pe_and (pe_cmpR op_ne (pe_ix (r := rIxT K) ix_tup (pv 0) pe_int (fun _ _ => rfl)) (pv 1) (nomark _)) (pe_one (pe_cal c hr (by omega) (by rfl) (pa_cons (pe_ix (r := rIxT K) ix_tup (pv 0) pe_int (fun _ _ => rfl)) (pa_cons (pv 1) pa_nil))))))) pss_nil)
    (pss_cons (ps_if (pt_cmpR op_in_seq (pe_ix (r := rIxT K) ix_tup (pv 0) pe_int (fun _ _ => rfl)) (pe_tup (pa_cons pe_str (pa_cons pe_str (pa_cons pe_str pa_nil)))) (by rfl)) (pss_one (ps_ret (pe_callB (id := "any") (r := rAny K) (cr_any rfl) (by rfl) nb.any (by decide +kernel) (pa_cons (pe_lc (own := [("_law_each", 2)]) (g := gName 2) (tt := tYes) rfl scFree.nd (pi_tup (pe_slice sl_tupA (pv 0) (po_some pe_int) po_none)) (blkOk_by (N := ["_law_said", "_law_letter", "_law_each", "_law_row_here"]) (sc := defScope sFree) (by decide +kernel)) (fun _ _ _ _ _ => pg_name (i := 2) scFree.nd rfl (Or.inl rfl)) (fun _ _ _ _ _ => pts_nil) (fun _ _ _ _ _ => (pe_cal c hr (by omega) (by rfl) (pa_cons (pv 2) (pa_cons (pv 1) pa_nil))))) pa_nil)))) pss_nil)
    (pss_cons (ps_if (pt_cmpR op_eq (pe_callB (id := "len") (r := rLn K) call_len_seq (by rfl) nb.len PySem.boot_len (pa_cons (pv 0) pa_nil)) pe_int (nomark _)) (pss_one (ps_ret pe_bl)) pss_nil)
    (pss_one (ps_ret (pe_ifExp (pt_cmpR op_eq (pv 1) pe_str (nomark _)) (pe_cmpR op_gt (pe_callB (id := "len") (r := rLn K) call_len_seq (by rfl) nb.len PySem.boot_len (pa_cons (pe_ix (r := rIxT K) ix_tup (pv 0) pe_int (fun _ _ => rfl)) pa_nil)) pe_int (nomark _)) (pe_callB (id := "any") (r := rAny K) (cr_any rfl) (by rfl) nb.any (by decide +kernel) (pa_cons (pe_lc (own := [("_law_row_here", 3)]) (g := gName 3) (tt := tYes) rfl scFree.nd (pi_tup (pe_ix (r := rIxT K) ix_tup (pv 0) pe_int (fun _ _ => rfl))) (blkOk_by (N := ["_law_said", "_law_letter", "_law_each", "_law_row_here"]) (sc := defScope sFree) (by decide +kernel)) (fun _ _ _ _ _ => pg_name (i := 3) scFree.nd rfl (Or.inl rfl)) (fun _ _ _ _ _ => pts_nil) (fun _ _ _ _ _ => (pe_cmpR op_gt (pe_callB (id := "len") (r := rLn K) call_len_seq (by rfl) nb.len PySem.boot_len (pa_cons (pv 3) pa_nil)) pe_int (nomark _)))) pa_nil)))))))), ?_⟩
  walk_at "rd"
  cases t with
  | tt =>
    obtain ⟨p, xs, rfl, np, hp, hx⟩ := da_tup hd
    refine ⟨.ref p, rfl, ix_at (n := 0) hd rfl fun y hy => ?_⟩
    cases hy
    refine in_new (l := ["all", "some"]) rfl (by decide) fun H2 s2 => iteF ⟨.ref p, rfl, ix_at (n := 0) (hd.same s2) rfl fun y hy => ?_⟩
    cases hy
    refine in_new (l := ["not", "both", "either"]) rfl (by decide) fun H3 s3 => iteF ?_
    have s3 := s2.trans s3
    refine ⟨.ref p, rfl, p, xs, rfl, .inr (SqT.of (s3 _ _ hp)), rfl, _, rfl, ?_⟩
    rw [hx.len]
    refine ite2 (fun z => q H3 s3) (fun z => absurd (decide_eq_true rfl) z)
  | ff =>
    obtain ⟨p, xs, rfl, np, hp, hx⟩ := da_tup hd
    refine ⟨.ref p, rfl, ix_at (n := 0) hd rfl fun y hy => ?_⟩
    cases hy
    refine in_new (l := ["all", "some"]) rfl (by decide) fun H2 s2 => iteF ⟨.ref p, rfl, ix_at (n := 0) (hd.same s2) rfl fun y hy => ?_⟩
    cases hy
    refine in_new (l := ["not", "both", "either"]) rfl (by decide) fun H3 s3 => iteF ?_
    have s3 := s2.trans s3
    refine ⟨.ref p, rfl, p, xs, rfl, .inr (SqT.of (s3 _ _ hp)), rfl, _, rfl, ?_⟩
    rw [hx.len]
    refine ite2 (fun z => q H3 s3) (fun z => absurd (decide_eq_true rfl) z)
  | nn u =>
    rw [depth_nn] at hN
    refine ⟨v, rfl, ix_at (n := 0) hd rfl fun y hy => ?_⟩
    cases hy
    refine in_new (l := ["all", "some"]) rfl (by decide) fun H2 s2 => iteF ⟨v, rfl, ix_at (n := 0) (hd.same s2) rfl fun y hy => ?_⟩
    cases hy
    refine in_new (l := ["not", "both", "either"]) rfl (by decide) fun H3 s3 => iteT ?_
    have s3 := s2.trans s3
    have hps : ∀ r ∈ ([u] : List Say), r.ok ∧ r.depth ≤ N := fun r hr => by rw [List.mem_singleton.mp hr]; exact ⟨ho, by omega⟩
    refine lc_mapI (K := K) (a := a) (ds := ([u] : List Say).map Say.d) (fun d => V.bl (frD x d)) (fun R hR => ⟨v, rfl, 1, rfl, ?_⟩) (by simp) (wipe1 _ 2) (fun y d H5 hm s5 dy R hR => ?_) fun L H5 s5 h5 => ?_
    · walk_at "rd"
      refine sl_da (same_some s3 ha) (hd.same s3) fun v4 H4 s4 hd4 => ?_
      rw [cut1] at hd4
      obtain ⟨p1, xs1, rfl, np1, hp1, hx1⟩ := da_tup hd4
      exact ⟨p1, rfl, ⟨_, SqT.of hp1⟩, hR p1 xs1 H4 s4 hp1 hx1⟩
    · obtain ⟨r, hr2, rfl⟩ := List.mem_map.mp hm
      obtain ⟨o1, o2⟩ := hps r hr2
      rw [fr_d o1] at hR
      exact ⟨y, rfl, .str _, rfl, a, y, r, x, rfl, same_some (s3.trans s5) ha, dy, o1, o2, fun H6 s6 => hR H6 s6⟩
    · refine ⟨L, (([u] : List Say).map Say.d).map (frD x), rfl, SqL.of (by rw [List.map_map]; exact h5), ?_⟩
      have e : ((([u] : List Say).map Say.d).map (frD x)).any id = u.free x := by
        simp only [List.map_cons, List.map_nil, List.any_cons, List.any_nil, id, Bool.or_false]
        rw [fr_d (hps u (by simp)).1]
        
      rw [e]
      exact q H5 (s3.trans s5)
  | bo b u u2 =>
    rw [depth_bo] at hN
    cases b with
    | true =>
      refine ⟨v, rfl, ix_at (n := 0) hd rfl fun y hy => ?_⟩
      cases hy
      refine in_new (l := ["all", "some"]) rfl (by decide) fun H2 s2 => iteF ⟨v, rfl, ix_at (n := 0) (hd.same s2) rfl fun y hy => ?_⟩
      cases hy
      refine in_new (l := ["not", "both", "either"]) rfl (by decide) fun H3 s3 => iteT ?_
      have s3 := s2.trans s3
      have hps : ∀ r ∈ ([u, u2] : List Say), r.ok ∧ r.depth ≤ N := fun r hr => by rcases List.mem_cons.mp hr with rfl | hr; exact ⟨ho.1, by omega⟩; rw [List.mem_singleton.mp hr]; exact ⟨ho.2, by omega⟩
      refine lc_mapI (K := K) (a := a) (ds := ([u, u2] : List Say).map Say.d) (fun d => V.bl (frD x d)) (fun R hR => ⟨v, rfl, 1, rfl, ?_⟩) (by simp) (wipe1 _ 2) (fun y d H5 hm s5 dy R hR => ?_) fun L H5 s5 h5 => ?_
      · walk_at "rd"
        refine sl_da (same_some s3 ha) (hd.same s3) fun v4 H4 s4 hd4 => ?_
        rw [cut1] at hd4
        obtain ⟨p1, xs1, rfl, np1, hp1, hx1⟩ := da_tup hd4
        exact ⟨p1, rfl, ⟨_, SqT.of hp1⟩, hR p1 xs1 H4 s4 hp1 hx1⟩
      · obtain ⟨r, hr2, rfl⟩ := List.mem_map.mp hm
        obtain ⟨o1, o2⟩ := hps r hr2
        rw [fr_d o1] at hR
        exact ⟨y, rfl, .str _, rfl, a, y, r, x, rfl, same_some (s3.trans s5) ha, dy, o1, o2, fun H6 s6 => hR H6 s6⟩
      · refine ⟨L, (([u, u2] : List Say).map Say.d).map (frD x), rfl, SqL.of (by rw [List.map_map]; exact h5), ?_⟩
        have e : ((([u, u2] : List Say).map Say.d).map (frD x)).any id = (Say.bo true u u2).free x := by
          simp only [List.map_cons, List.map_nil, List.any_cons, List.any_nil, id, Bool.or_false]
          rw [fr_d (hps u (by simp)).1, fr_d (hps u2 (by simp)).1]
          rfl
        rw [e]
        exact q H5 (s3.trans s5)
    | false =>
      refine ⟨v, rfl, ix_at (n := 0) hd rfl fun y hy => ?_⟩
      cases hy
      refine in_new (l := ["all", "some"]) rfl (by decide) fun H2 s2 => iteF ⟨v, rfl, ix_at (n := 0) (hd.same s2) rfl fun y hy => ?_⟩
      cases hy
      refine in_new (l := ["not", "both", "either"]) rfl (by decide) fun H3 s3 => iteT ?_
      have s3 := s2.trans s3
      have hps : ∀ r ∈ ([u, u2] : List Say), r.ok ∧ r.depth ≤ N := fun r hr => by rcases List.mem_cons.mp hr with rfl | hr; exact ⟨ho.1, by omega⟩; rw [List.mem_singleton.mp hr]; exact ⟨ho.2, by omega⟩
      refine lc_mapI (K := K) (a := a) (ds := ([u, u2] : List Say).map Say.d) (fun d => V.bl (frD x d)) (fun R hR => ⟨v, rfl, 1, rfl, ?_⟩) (by simp) (wipe1 _ 2) (fun y d H5 hm s5 dy R hR => ?_) fun L H5 s5 h5 => ?_
      · walk_at "rd"
        refine sl_da (same_some s3 ha) (hd.same s3) fun v4 H4 s4 hd4 => ?_
        rw [cut1] at hd4
        obtain ⟨p1, xs1, rfl, np1, hp1, hx1⟩ := da_tup hd4
        exact ⟨p1, rfl, ⟨_, SqT.of hp1⟩, hR p1 xs1 H4 s4 hp1 hx1⟩
      · obtain ⟨r, hr2, rfl⟩ := List.mem_map.mp hm
        obtain ⟨o1, o2⟩ := hps r hr2
        rw [fr_d o1] at hR
        exact ⟨y, rfl, .str _, rfl, a, y, r, x, rfl, same_some (s3.trans s5) ha, dy, o1, o2, fun H6 s6 => hR H6 s6⟩
      · refine ⟨L, (([u, u2] : List Say).map Say.d).map (frD x), rfl, SqL.of (by rw [List.map_map]; exact h5), ?_⟩
        have e : ((([u, u2] : List Say).map Say.d).map (frD x)).any id = (Say.bo false u u2).free x := by
          simp only [List.map_cons, List.map_nil, List.any_cons, List.any_nil, id, Bool.or_false]
          rw [fr_d (hps u (by simp)).1, fr_d (hps u2 (by simp)).1]
          rfl
        rw [e]
        exact q H5 (s3.trans s5)
  | qu al x1 u =>
    rw [depth_qu] at hN
    cases al with
    | true =>
      refine ⟨v, rfl, ix_at (n := 0) hd rfl fun y hy => ?_⟩
      cases hy
      refine in_new (l := ["all", "some"]) rfl (by decide) fun H2 s2 => iteT ⟨v, rfl, ix_at (n := 1) (hd.same s2) rfl fun y hy => ?_⟩
      cases hy
      refine ⟨.str _, rfl, rfl, _, rfl, ?_⟩
      have e : (!decide (V.str (if x1 then ("x" : Str) else "y") = V.str (if x then ("x" : Str) else "y"))) = (x1 != x) := by cases x1 <;> cases x <;> decide
      rw [e]
      have q1 : ∀ H', Same H H' → Q (.bl ((x1 != x) && u.free x)) H' := q
      cases hxx : (x1 != x) with
      | false => rw [hxx] at q1; exact iteF (q1 H2 s2)
      | true =>
        rw [hxx] at q1
        exact iteT ⟨v, rfl, ix_at (n := 2) (hd.same s2) rfl fun y hy => ⟨.str _, rfl, a, y, u, x, rfl, same_some s2 ha, hy, ho, by omega, fun H3 s3 => q1 H3 (s2.trans s3)⟩⟩
    | false =>
      refine ⟨v, rfl, ix_at (n := 0) hd rfl fun y hy => ?_⟩
      cases hy
      refine in_new (l := ["all", "some"]) rfl (by decide) fun H2 s2 => iteT ⟨v, rfl, ix_at (n := 1) (hd.same s2) rfl fun y hy => ?_⟩
      cases hy
      refine ⟨.str _, rfl, rfl, _, rfl, ?_⟩
      have e : (!decide (V.str (if x1 then ("x" : Str) else "y") = V.str (if x then ("x" : Str) else "y"))) = (x1 != x) := by cases x1 <;> cases x <;> decide
      rw [e]
      have q1 : ∀ H', Same H H' → Q (.bl ((x1 != x) && u.free x)) H' := q
      cases hxx : (x1 != x) with
      | false => rw [hxx] at q1; exact iteF (q1 H2 s2)
      | true =>
        rw [hxx] at q1
        exact iteT ⟨v, rfl, ix_at (n := 2) (hd.same s2) rfl fun y hy => ⟨.str _, rfl, a, y, u, x, rfl, same_some s2 ha, hy, ho, by omega, fun H3 s3 => q1 H3 (s2.trans s3)⟩⟩
  | re wd pl =>
    obtain ⟨p, xs, rfl, np, hp, hx⟩ := da_tup hd
    refine ⟨.ref p, rfl, ix_at (n := 0) hd rfl fun y hy => ?_⟩
    cases hy
    refine in_new (l := ["all", "some"]) rfl (by decide) fun H2 s2 => ?_
    rw [rel_word ho.1 _ (by decide)]
    refine iteF ⟨.ref p, rfl, ix_at (n := 0) (hd.same s2) rfl fun y hy => ?_⟩
    cases hy
    refine in_new (l := ["not", "both", "either"]) rfl (by decide) fun H3 s3 => ?_
    rw [rel_word ho.1 _ (by decide)]
    have s3 := s2.trans s3
    refine iteF ⟨.ref p, rfl, p, xs, rfl, .inr (SqT.of (s3 _ _ hp)), rfl, _, rfl, ?_⟩
    rw [hx.len]
    refine ite2 (fun z => absurd (veq z) (by simp)) (fun _ => ?_)
    obtain ⟨_, _, ds, rfl, hrow, hl, hwd⟩ := small_k ho.2
    have hd3 := hd.same s3
    refine ⟨_, rfl, rfl, _, rfl, ?_⟩
    cases x with
    | false =>
      refine iteT ⟨.ref p, rfl, ix_at (n := 1) hd3 rfl fun y hy => ?_⟩
      obtain ⟨p2, ys, rfl, n2, hp2, hy2⟩ := da_tup hy
      refine ⟨p2, ys, rfl, .inr (SqT.of hp2), _, _, rfl, rfl, ?_⟩
      rw [hy2.len]
      have e : decide (((ds.length : Nat) : Int) > 1) = (Say.re wd (.tuple ds)).free false := by
        show _ = decide (1 < ds.length)
        exact decide_eq_decide.mpr (by omega)
      show Q (.bl (decide (((ds.length : Nat) : Int) > 1))) H3
      rw [e]
      exact q H3 s3
    | true =>
      refine iteF (lc_mapI (K := K) (a := a) (ds := ds) (fun r => V.bl (decide (1 < lenD r))) (fun R hR => ⟨.ref p, rfl, ?_⟩) (by omega) (wipe1 _ 3) (fun y d H5 hm s5 dy R hR => ?_) fun L H5 s5 h5 => ?_)
      · walk_at "rd"
        refine ix_at (n := 1) hd3 rfl fun y hy => ?_
        obtain ⟨p2, ys, rfl, n2, hp2, hy2⟩ := da_tup hy
        exact ⟨p2, rfl, ⟨_, SqT.of hp2⟩, hR p2 ys H3 (Same.refl _) hp2 hy2⟩
      · obtain ⟨p3, zs, es, rfl, rfl, n3, h3, hz⟩ := tup_of dy (row_tup (hrow d hm))
        refine ⟨.ref p3, rfl, p3, zs, rfl, .inr (SqT.of h3), _, _, rfl, rfl, ?_⟩
        rw [hz.len]
        have e : decide (((es.length : Nat) : Int) > 1) = decide (1 < lenD (.tuple es)) := decide_eq_decide.mpr (by show _ ↔ 1 < es.length; omega)
        show R (.bl (decide (((es.length : Nat) : Int) > 1))) H5
        rw [e]
        exact hR H5 (Same.refl _)
      · refine ⟨L, ds.map fun r => decide (1 < lenD r), rfl, SqL.of (by rw [List.map_map]; exact h5), ?_⟩
        rw [wid_any]
        exact q H5 (s3.trans s5)
theorem lfree_all (D : Def K mg "_law_free" sFree ["_law_said", "_law_letter"]) (nb : Nb mg) : ∀ N : Nat, Cal P w K mg base "_law_free" (N + 1) ["_law_said", "_law_letter"] (spLFree N)
  | 0 => by
    have no : ∀ vs H Q E, ¬ spLFree 0 vs H Q E := fun vs H Q E h => by
      obtain ⟨a, v, s, x, _, _, _, _, h1, _⟩ := h
      have := s.depth_pos
      omega
    obtain ⟨f, fd, F, m, b⟩ := D
    exact ⟨f, fd, ⟨fun vs H Q E h => absurd h (no vs H Q E), fun A out s H g us vs Q E _ _ _ _ h => absurd h (no vs H Q E)⟩, m, F.kp, b, fdAt F⟩
  | N + 1 => lfree_step D nb (lfree_all D nb N)
end
end K43

set_option Elab.async false
set_option linter.all false
set_option maxRecDepth 100000
set_option maxHeartbeats 8000000
local macro_rules | `(tactic| walk_at "rd") => `(tactic| dsimp only [Evl.tCut, L2.tSeq, L2.tNext, L2.tRet, L2.tRetN, L2.tAsg, L2.gName, L2.tIfS, L2.tDrop, L2.tCons, L2.tNil, L2.tC, L2.tVar, L2.tCB, L2.tAndV, L2.tOrV, L2.tNotV, L2.tB, L2.tTest, L2.tOp, L2.tUn, L2.tNot, L2.tAnd, L2.tOr, L2.tIf, L2.tCall, L2.tTup, L2.tLst, L2.tNotT, L2.tYes, L2.gTup, L2.gCons, L2.gNil, L2.gSub, L2.tBM0, L2.tBM, L2.tWhile, L2.tFor, L2.iRng1, L2.iRng2, L2.tAugS, Tw.iEnumT, L2.tCKw, L2.tAug, L2.ipI, RT.iRevA, L2.tPar, L2.tPar3, L2.tSl, L2.tNoPart, L2.tPart, Tw.tRevT, Tw.tFput])
namespace K43
open PySem PySem.Spec PyProof.Rows L2 Tw
/-- an int from 0 on below n; the well is turned -/
def spDraw : Sp := fun vs H Q _ => ∃ a n, vs = [.ref a, .int n] ∧ We a H ∧ 0 < n ∧ n < 1073741824 ∧ ∀ d H', 0 ≤ d → d < n → Kp a H H' → We a H' → Q (.int d) H'
/-- one of a tuple's items -/
def spPick : Sp := fun vs H Q _ => ∃ a p xs, vs = [.ref a, .ref p] ∧ We a H ∧ p ≠ a ∧ H p = some (.tup xs) ∧ xs ≠ [] ∧ xs.length < 1000 ∧ ∀ (i : Nat) x H', xs[i]? = some x → Kp a H H' → We a H' → Q x H'
theorem kp_well {a : Addr} {H H' : Hp} {o : HO} (h : Kp a H H') : Kp a H (upd H' a o) := fun b u n e => by
  rw [upd_ne n]; exact h b u n e
section
variable {P : Program} {w : World} {K : PySem.W.Frag} {mg : Str → Option Value} {base : Heap}
theorem scDraw : FnScope ["_law_well_here", "_law_many", "_law_figure", "_law_seed"] ["_law_well_here", "_law_many"] (defScope sDraw) := ⟨rfl, rfl, rfl, by decide +kernel, rfl, by decide +kernel, by decide +kernel⟩
theorem ok_draw (D : Def K mg "_law_draw" sDraw ["_law_well_here", "_law_many"]) (nb : Nb mg) : Cal P w K mg base "_law_draw" 1 ["_law_well_here", "_law_many"] spDraw := by
  refine D.ok scDraw (fun vs H Q E h => ?_) (fun f cdv A out s H vs Q E hr h => ?_)
  · obtain ⟨a, n, rfl, _⟩ := h; rfl
  obtain ⟨a, n, rfl, ⟨x, y, z, hw⟩, n0, n1, q⟩ := h
  refine ⟨_, pss_cons (ps_if (pt_cmpR op_gt (pe_ix ix_list (pv 0) pe_int (fun _ _ => rfl)) pe_int (nomark _))
      (pss_cons (ps_asg (pe_callB (id := "divmod") call_divmod (by rfl) nb.dvm (by decide +kernel) (pa_cons (pe_ix ix_list (pv 0) pe_int (fun _ _ => rfl)) (pa_cons (pv 1) pa_nil)))
          (pg_tup rfl (pgs_cons (pg_sub (pv 0) pe_int set_list) (pgs_cons (pg_name (i := 2) scDraw.nd rfl (Or.inl rfl)) pgs_nil))))
        (pss_one (ps_ret (pv 2)))) pss_nil)
    (pss_cons (ps_asg (pe_op op_add (pe_ix ix_list (pv 0) pe_int (fun _ _ => rfl)) pe_int) (pg_sub (pv 0) pe_int set_list))
    (pss_cons (ps_set (i := 3) scDraw.nd rfl (Or.inl rfl) (pe_op op_mod (pe_callTy (T := "int") call_int1 (by rfl) nb.int (by decide +kernel)
        (pa_cons (pe_op op_add (pe_ix ix_list (pv 0) pe_int (fun _ _ => rfl)) (pe_op op_mul pe_int (pe_ix ix_list (pv 0) pe_int (fun _ _ => rfl)))) pa_nil)) pe_int))
    (pss_cons (ps_asg (pe_op op_mod (pe_callTy (T := "int") call_int1 (by rfl) nb.int (by decide +kernel)
        (pa_cons (pe_op op_add (pe_op op_mul (pv 3) (pe_op op_add (pe_op op_mod (pe_callTy (T := "int") call_int1 (by rfl) nb.int (by decide +kernel) (pa_cons (pv 3) pa_nil)) pe_int) pe_int))
          (pe_op op_mul pe_int (pe_ix ix_list (pv 0) pe_int (fun _ _ => rfl)))) pa_nil)) pe_int) (pg_sub (pv 0) pe_int set_list))
    (pss_one (ps_ret (pe_op op_mod (pe_callTy (T := "int") call_int1 (by rfl) nb.int (by decide +kernel) (pa_cons (pe_op op_fdiv (pe_ix ix_list (pv 0) pe_int (fun _ _ => rfl)) pe_int) pa_nil)) (pv 1))))))), ?_⟩
  walk_at "rd"
  refine ⟨.ref a, rfl, a, _, 0, .int x, rfl, rfl, SqL.of hw, rfl, x, 0, rfl, rfl, _, rfl, ite2 (fun c => ?_) (fun c => ?_)⟩
  · refine ⟨.ref a, rfl, a, _, 0, .int x, rfl, rfl, SqL.of hw, rfl, .int n, rfl, x, n, rfl, ⟨n0, n1⟩, fun t nt => ?_⟩
    have ta : t ≠ a := (show We a H from ⟨x, y, z, hw⟩).ne nt
    have h1 : upd H t (.tup [.int (x / n), .int (x % n)]) a = some (.lst [.int x, .int y, .int z]) := by rw [upd_ne ta.symm]; exact hw
    refine ⟨t, _, rfl, SqT.of upd_same, rfl, .int (x / n), _, rfl, .ref a, rfl, a, _, 0, 0, rfl, rfl, h1, rfl, .int (x % n), _, rfl, ⟨rfl, .int (x % n), rfl, ?_⟩⟩
    refine q _ _ (Int.emod_nonneg _ (by omega)) (Int.emod_lt_of_pos _ n0) (kp_well (kp_new nt)) ⟨x / n, y, z, upd_same⟩
  · refine ⟨.ref a, rfl, a, _, 2, .int z, rfl, rfl, SqL.of hw, rfl, z, 1, rfl, rfl, .ref a, rfl, a, _, 2, 2, rfl, rfl, hw, rfl, ?_⟩
    generalize hH1 : upd H a _ = H1
    have w1 : H1 a = some (.lst [.int x, .int y, .int (z + 1)]) := by rw [← hH1]; exact upd_same
    have k1 : Kp a H H1 := by rw [← hH1]; exact kp_well (Kp.refl a H)
    refine ⟨.ref a, rfl, a, _, 1, .int y, rfl, rfl, SqL.of w1, rfl, .ref a, rfl, a, _, 2, .int (z + 1), rfl, rfl, SqL.of w1, rfl, _, _, rfl, rfl, .inl ⟨by decide, by decide⟩, _, _, rfl, rfl, .inl ⟨_, rfl, _, _, rfl, rfl, (by show (0 : Int) < _; decide), ?_⟩⟩
    walk_at "rd"
    generalize hs : (_ : Int) % 2147483563 = sd
    have s0 : 0 ≤ sd := by rw [← hs]; exact Int.emod_nonneg _ (by decide)
    have s1 : sd < 2147483563 := by rw [← hs]; exact Int.emod_lt_of_pos _ (by decide)
    refine ⟨.int sd, rfl, .int sd, rfl, .inl ⟨sd, rfl, _, _, rfl, rfl, (by show (0 : Int) < _; decide), _, _, rfl, rfl, _, _, rfl, rfl, .inl ⟨by omega, by omega⟩, .ref a, rfl, a, _, 2, .int (z + 1), rfl, rfl, SqL.of w1, rfl, _, _, rfl, rfl, .inl ⟨by decide, by decide⟩, _, _, rfl, rfl, .inl ⟨_, rfl, _, _, rfl, rfl, (by show (0 : Int) < _; decide), ?_⟩⟩⟩
    walk_at "rd"
    refine ⟨.ref a, rfl, a, _, 1, 1, rfl, rfl, w1, rfl, ?_⟩
    generalize hy : (_ : Int) % 2147483563 = y2
    generalize hH2 : upd H1 a _ = H2
    have w2 : H2 a = some (.lst [.int x, .int y2, .int (z + 1)]) := by rw [← hH2]; exact upd_same
    have k2 : Kp a H H2 := by rw [← hH2]; exact kp_well k1
    refine ⟨.ref a, rfl, a, _, 1, .int y2, rfl, rfl, SqL.of w2, rfl, _, _, rfl, rfl, ⟨by decide, by decide⟩, .inl ⟨_, rfl, .int n, rfl, _, _, rfl, rfl, n0, ?_⟩⟩
    exact q _ _ (Int.emod_nonneg _ (by omega)) (Int.emod_lt_of_pos _ n0) k2 ⟨x, y2, z + 1, w2⟩

theorem scPick : FnScope ["_law_well_here", "_law_some"] ["_law_well_here", "_law_some"] (defScope sPick) := ⟨rfl, rfl, rfl, by decide +kernel, rfl, by decide +kernel, by decide +kernel⟩
theorem ok_pick (D : Def K mg "_law_pick" sPick ["_law_well_here", "_law_some"]) (nb : Nb mg) (c1 : Cal P w K mg base "_law_draw" 1 ["_law_well_here", "_law_many"] spDraw) : Cal P w K mg base "_law_pick" 2 ["_law_well_here", "_law_some"] spPick := by
  refine D.ok scPick (fun vs H Q E h => ?_) (fun f cdv A out s H vs Q E hr h => ?_)
  · obtain ⟨a, p, xs, rfl, _⟩ := h; rfl
  obtain ⟨a, p, xs, rfl, hw, np, hp, ne, hl, q⟩ := h
  refine ⟨_, pss_one (ps_ret (pe_ix ix_tup (pv 1) (pe_cal c1 hr (Nat.le_refl 1) (by rfl) (pa_cons (pv 0) (pa_cons (pe_callB (id := "len") call_len_seq (by rfl) nb.len PySem.boot_len (pa_cons (pv 1) pa_nil)) pa_nil))) (fun _ _ => rfl))), ?_⟩
  walk_at "rd"
  have l0 : 0 < xs.length := List.length_pos_iff.mpr ne
  refine ⟨.ref p, rfl, .ref a, rfl, .ref p, rfl, p, xs, rfl, .inr (SqT.of hp), a, _, rfl, hw, by omega, by omega, fun d H1 d0 d1 k1 w1 => ?_⟩
  obtain ⟨m, rfl⟩ := Int.eq_ofNat_of_zero_le d0
  have hm : m < xs.length := by omega
  exact ⟨p, xs, _, xs[m], rfl, rfl, SqT.of (k1 _ _ np hp), atI_nat (List.getElem?_eq_getElem hm), q m _ H1 (List.getElem?_eq_getElem hm) k1 w1⟩
end
/-- a new well -/
def spWell (K : PySem.W.Frag) : Sp := fun vs H Q _ => ∃ (p : Addr) (ns : List Int) (k : Int), vs = [.ref p, .int k] ∧ SqL K H p (ns.map V.int) ∧ ns.length ≤ 63 ∧ 0 ≤ k ∧ ∀ a H', Same H H' → H a = none → We a H' → Q (.ref a) H'
def spLaw (K : PySem.W.Frag) : Sp := fun vs H Q _ => ∃ (p : Addr) (ns : List Int), vs = [.ref p] ∧ SqL K H p (ns.map V.int) ∧ ns.length ≤ 63 ∧ ∀ H', Q (.bl true) H'
section
variable {P : Program} {w : World} {K : PySem.W.Frag} {mg : Str → Option Value} {base : Heap}
theorem scWell : FnScope ["_law_script", "_law_at", "_law_mixed", "_law_cell", "_law_own"] ["_law_script", "_law_at"] (defScope sWell) := ⟨rfl, rfl, rfl, by decide +kernel, rfl, by decide +kernel, by decide +kernel⟩
theorem ok_well (D : Def K mg "_law_well" sWell ["_law_script", "_law_at"]) (nb : Nb mg) : Cal P w K mg base "_law_well" 1 ["_law_script", "_law_at"] (spWell K) := by
  refine D.ok scWell (fun vs H Q E h => ?_) (fun f cdv A out s H vs Q E hr h => ?_)
  · obtain ⟨p, ns, k, rfl, _⟩ := h; rfl
  obtain ⟨p, ns, k, rfl, hp, hl, k0, q⟩ := h
  refine ⟨_, pss_cons (ps_set (i := 2) scWell.nd rfl (Or.inl rfl) (pe_op op_add pe_int (pe_op op_mul pe_int (pv 1))))
    (pss_cons (ps_for PassesOwn.never rfl (pi_list (pe_slice sl_list (pv 0) po_none (po_some pe_int))) (pg_name (i := 3) scWell.nd rfl (Or.inl rfl))
        (pss_one (ps_set (i := 2) scWell.nd rfl (Or.inl rfl) (pe_op op_mod (pe_callTy (T := "int") call_int1 (by rfl) nb.int (by decide +kernel)
          (pa_cons (pe_op op_add (pe_op op_add (pe_op op_mul (pv 2) pe_int) (pe_op op_mod (pe_callTy (T := "int") call_int1 (by rfl) nb.int (by decide +kernel) (pa_cons (pv 3) pa_nil)) pe_int)) pe_int) pa_nil)) pe_int))))
    (Evl.pss_cut (ps_set (i := 4) scWell.nd rfl (Or.inl rfl) (pe_ifExp (pt_cmpR op_lt (pv 1) (pe_callB (id := "len") call_len_seq (by rfl) nb.len PySem.boot_len (pa_cons (pv 0) pa_nil)) (nomark _))
        (pe_callTy (T := "int") call_int1 (by rfl) nb.int (by decide +kernel) (pa_cons (pe_ix ix_list (pv 0) (pv 1) (fun _ _ => rfl)) pa_nil)) pe_int))
    (pss_cons (ps_set (i := 2) scWell.nd rfl (Or.inl rfl) (pe_op op_mod (pe_callTy (T := "int") call_int1 (by rfl) nb.int (by decide +kernel)
        (pa_cons (pe_op op_add (pe_op op_add (pe_op op_mul (pv 2) pe_int) (pe_op op_mul (pe_op op_mod (pe_callTy (T := "int") call_int1 (by rfl) nb.int (by decide +kernel) (pa_cons (pv 4) pa_nil)) pe_int) pe_int)) pe_int) pa_nil)) pe_int))
    (pss_one (ps_ret (pe_lst (pa_cons (pe_ifExp (PW.pt (pw_or (pt_cmpR op_lt (pv 4) pe_int (nomark _)) (pw_or1 (pt_cmpR op_ge (pv 4) (pe_op op_pow pe_int pe_int) (nomark _)))))
        (pe_callB (id := "abs") call_abs (by rfl) nb.abs (by decide +kernel) (pa_cons (pv 4) pa_nil)) pe_int) (pa_cons (pv 2) (pa_cons pe_int pa_nil))))))))), ?_⟩
  walk_at "rd"
  refine ⟨.int k, rfl, _, _, rfl, rfl, .inl ⟨by decide, by decide⟩, _, _, rfl, rfl, .ref p, rfl, 9, rfl, p, _, rfl, hp, fun c nc => ?_⟩
  have s1 := same_new (o := .lst (L2.cutV (ns.map V.int) none (some 9))) nc
  have hc : upd H c (.lst (L2.cutV (ns.map V.int) none (some 9))) c = some (.lst (L2.cutV (ns.map V.int) none (some 9))) := upd_same
  generalize upd H c _ = H1 at s1 hc ⊢
  have hp1 : SqL K H1 p (ns.map V.int) := s1.seq hp
  refine ⟨c, rfl, ⟨_, SqL.of hc⟩, for_lst (xs := L2.cutV (ns.map V.int) none (some 9)) (fun i σ H' => ∃ (mx : Int) (x3 : Option V), σ = [some (.ref p), some (.int k), some (.int mx), x3, none] ∧ H' = H1) ⟨_, none, rfl, rfl⟩ (fun i σ' H' _ h => ?_) (fun i x σ' H' hx h => ?_) (fun σ' H' h => ?_)⟩
  · obtain ⟨mx, x3, rfl, rfl⟩ := h; exact SqL.of hc
  · obtain ⟨mx, x3, rfl, rfl⟩ := h
    obtain ⟨n, _, rfl⟩ : ∃ n, n ∈ ns ∧ V.int n = x := List.mem_map.mp (List.mem_of_mem_drop (List.mem_of_mem_take (List.mem_of_getElem? hx)))
    refine ⟨.int mx, rfl, _, _, rfl, rfl, .inr ⟨by decide, by decide⟩, .int n, rfl, .inl ⟨n, rfl, _, _, rfl, rfl, (by show (0 : Int) < _; decide), _, _, rfl, rfl, _, _, rfl, rfl, .inl ⟨_, rfl, _, _, rfl, rfl, (by show (0 : Int) < _; decide), ?_⟩⟩⟩
    exact ⟨_, some (.int n), rfl, rfl⟩
  · obtain ⟨mx, x3, rfl, rfl⟩ := h
    refine ⟨fun σ2 H2 => ∃ o : Int, σ2 = [some (.ref p), some (.int k), some (.int mx), x3, some (.int o)] ∧ H2 = H', ⟨.int k, rfl, .ref p, rfl, p, _, rfl, .inl hp1, _, _, rfl, rfl, _, rfl, ite2 (fun c1 => ?_) (fun c1 => ⟨0, rfl, rfl⟩)⟩, ?_⟩
    · have c1 := of_decide_eq_true c1
      rw [List.length_map] at c1
      obtain ⟨j, rfl⟩ := Int.eq_ofNat_of_zero_le k0
      have hj : j < ns.length := by omega
      refine ⟨.ref p, rfl, .int j, rfl, p, _, j, .int ns[j], rfl, rfl, hp1, atI_nat (by rw [List.getElem?_map, List.getElem?_eq_getElem hj]; rfl), .inl ⟨_, rfl, ns[j], rfl, rfl⟩⟩
    · rintro σ2 H2 ⟨o, rfl, rfl⟩
      refine ⟨.int mx, rfl, _, _, rfl, rfl, .inr ⟨by decide, by decide⟩, .int o, rfl, .inl ⟨o, rfl, _, _, rfl, rfl, (by show (0 : Int) < _; decide), _, _, rfl, rfl, .inr ⟨by decide, by decide⟩, _, _, rfl, rfl, _, _, rfl, rfl, .inl ⟨_, rfl, _, _, rfl, rfl, (by show (0 : Int) < _; decide), ?_⟩⟩⟩
      have fin : ∀ x y : Int, [V.int x, .int y, .int 0].length ≤ sizeLine ∧ ∀ a, H2 a = none → Q (.ref a) (upd H2 a (.lst [.int x, .int y, .int 0])) := fun x y => ⟨sz (by simp), fun a na => q a _ (s1.trans (same_new na)) (s1.free na) ⟨_, _, _, upd_same⟩⟩
      refine ⟨.int o, rfl, _, _, rfl, rfl, _, rfl, ite2 (fun c1 => ?_) (fun c1 => ?_)⟩
      · exact iteT ⟨.int o, rfl, o, rfl, _, rfl, fin _ _⟩
      · refine ⟨.int o, rfl, _, _, rfl, rfl, ⟨by decide, by decide, by decide⟩, _, _, rfl, rfl, _, rfl, ite2 (fun c2 => ?_) (fun c2 => ?_)⟩
        · exact ⟨.int o, rfl, o, rfl, _, rfl, fin _ _⟩
        · exact ⟨_, rfl, fin _ _⟩

end
end K43

set_option Elab.async false
set_option linter.all false
set_option maxRecDepth 100000
set_option maxHeartbeats 8000000
local macro_rules | `(tactic| walk_at "rd") => `(tactic| dsimp only [Evl.tCut, L2.tSeq, L2.tNext, L2.tRet, L2.tRetN, L2.tAsg, L2.gName, L2.tIfS, L2.tDrop, L2.tCons, L2.tNil, L2.tC, L2.tVar, L2.tCB, L2.tAndV, L2.tOrV, L2.tNotV, L2.tB, L2.tTest, L2.tOp, L2.tUn, L2.tNot, L2.tAnd, L2.tOr, L2.tIf, L2.tCall, L2.tTup, L2.tLst, L2.tNotT, L2.tYes, L2.gTup, L2.gCons, L2.gNil, L2.gSub, L2.tBM0, L2.tBM, L2.tWhile, L2.tFor, L2.iRng1, L2.iRng2, L2.tAugS, Tw.iEnumT, L2.tCKw, L2.tAug, L2.ipI, RT.iRevA, L2.tPar, L2.tPar3, L2.tSl, L2.tNoPart, L2.tPart, Tw.tRevT, Tw.tFput])
namespace K43
open PySem PySem.Spec PyProof.Rows L2 Tw
/-! drawn polys -/
def B1 : Nat := 10 ^ 40 + 1000
/-- ints of a row -/
def RowD (d : PyData) : Prop := ∃ ms : List Int, d = .tuple (ms.map .int) ∧ ms.length ≤ 6 ∧ ∀ m ∈ ms, m.natAbs ≤ B1
def PolD (d : PyData) : Prop := ∃ ds, d = .tuple ds ∧ ds.length ≤ 6 ∧ ∀ r ∈ ds, RowD r
def numB (d : PyData) : Bool := match d with
  | .int i => decide (i.natAbs ≤ 100)
  | _ => false
theorem num_of {a : Addr} {H : Hp} {v : V} {d : PyData} (h : Da a H v d) (n : numB d = true) : ∃ i, v = .int i ∧ i.natAbs ≤ 100 := by
  cases h with
  | int i => exact ⟨i, rfl, of_decide_eq_true n⟩
  | _ => cases n
def spLRow : Sp := fun vs H Q _ => ∃ (a p : Addr) (ns : List Int), vs = [.ref p] ∧ H a ≠ none ∧ H p = some (.lst (ns.map V.int)) ∧ ns.length ≤ 100 ∧ ∀ v k H', Same H H' → Da a H' v (.tuple ((ns.take k).map .int)) → Q v H'
def spNum : Sp := fun vs H Q _ => ∃ a, vs = [.ref a] ∧ We a H ∧ ∀ i H', Kp a H H' → We a H' → i.natAbs + 2 ≤ B1 → Q (.int i) H'
theorem cutV_to (xs : List V) (m : Nat) : L2.cutV xs none (some (m : Int)) = xs.take m := by
  unfold L2.cutV
  rw [HT.sIx_nat, HT.sIx_none, List.drop_zero, Nat.sub_zero]
  by_cases c : m ≤ xs.length
  · rw [Nat.min_eq_left c]
  · rw [Nat.min_eq_right (by omega), List.take_length, List.take_of_length_le (by omega)]
theorem da_nums {a : Addr} {H : Hp} (ns : List Int) : DaAll a H (ns.map V.int) (ns.map PyData.int) := by
  induction ns with
  | nil => exact .nil
  | cons n l ih => exact .cons (.int n) ih
section
variable {P : Program} {w : World} {K : PySem.W.Frag} {mg : Str → Option Value} {base : Heap}
theorem scLRow : FnScope ["_law_some", "_law_spot"] ["_law_some"] (defScope sLRow) := ⟨rfl, rfl, rfl, by decide +kernel, rfl, by decide +kernel, by decide +kernel⟩
theorem ok_lrow (D : Def K mg "_law_row" sLRow ["_law_some"]) (nb : Nb mg) : Cal P w K mg base "_law_row" 1 ["_law_some"] spLRow := by
  refine D.ok scLRow (fun vs H Q E h => ?_) (fun f cdv A out s H vs Q E hr h => ?_)
  · obtain ⟨a, p, ns, rfl, _⟩ := h; rfl
  obtain ⟨a, p, ns, rfl, ha, hp, hl, q⟩ := h
  refine ⟨_, (pss_cons (ps_set (i := 1) scLRow.nd rfl (Or.inl rfl) (pe_callB (id := "len") (r := rLn K) call_len_seq (by rfl) nb.len PySem.boot_len (pa_cons (pv 0) pa_nil)))
    (pss_cons (ps_while PassesOwn.never (PW.pt (pw_and (pt_cmpR op_gt (pv 1) pe_int (nomark _)) (pw_and1 (pt_cmpR op_eq (pe_ix ix_list (pv 0) (pe_op op_sub (pv 1) pe_int) (fun _ _ => rfl)) pe_int (nomark _))))) (pss_one (ps_set (i := 1) scLRow.nd rfl (Or.inl rfl) (pe_op op_sub (pv 1) pe_int))))
    (pss_one (ps_ret (pe_callTy (T := "tuple") call_tuple_of (by rfl) nb.tup (by decide +kernel) (pa_cons (pe_slice sl_list (pv 0) po_none (po_some (pv 1))) pa_nil)))))), ?_⟩
  walk_at "rd"
  refine ⟨.ref p, rfl, p, _, rfl, .inl (SqL.of hp), ?_⟩
  rw [List.length_map]
  refine ⟨fun m σ H' => m ≤ ns.length ∧ σ = [some (.ref p), some (.int (m : Int))] ∧ H' = H, ⟨ns.length, Nat.le_refl _, rfl, rfl⟩, ?_⟩
  rintro m σ H1 ⟨hm, rfl, rfl⟩
  have last : ∀ c, H1 c = none → ∃ (p : Addr) (ys : List V), [V.ref c] = [.ref p] ∧ ((SqL K (upd H1 c (.lst (L2.cutV (ns.map V.int) none (some (m : Int))))) p ys ∧ ∀ l, (upd H1 c (.lst (L2.cutV (ns.map V.int) none (some (m : Int))))) l = none → Q (.ref l) (upd (upd H1 c (.lst (L2.cutV (ns.map V.int) none (some (m : Int))))) l (.tup ys))) ∨ (SqT K (upd H1 c (.lst (L2.cutV (ns.map V.int) none (some (m : Int))))) p ys ∧ Q (.ref p) (upd H1 c (.lst (L2.cutV (ns.map V.int) none (some (m : Int))))))) := fun c nc => by
    rw [cutV_to, ← List.map_take]
    have s1 := same_new (o := .lst ((ns.take m).map V.int)) nc
    refine ⟨c, _, rfl, .inl ⟨SqL.of upd_same, fun z nz => ?_⟩⟩
    obtain ⟨s2, d2⟩ := newT (same_some s1 ha) (da_nums (ns.take m)) nz
    exact q _ m _ (s1.trans s2) d2
  refine ⟨.int m, rfl, m, 0, rfl, rfl, _, rfl, ite2 (fun z => ?_) (fun z => ?_)⟩
  · have z := of_decide_eq_true z
    obtain ⟨j, rfl⟩ : ∃ j, m = j + 1 := ⟨m - 1, by omega⟩
    have hj : j < ns.length := by omega
    have ej : ((j + 1 : Nat) : Int) - 1 = (j : Int) := by omega
    refine ⟨.ref p, rfl, .int ((j + 1 : Nat) : Int), rfl, _, _, rfl, rfl, p, _, _, .int ns[j], rfl, rfl, SqL.of hp, ?_, rfl, _, rfl, ?_⟩
    · rw [ej]
      exact atI_nat (by rw [List.getElem?_map, List.getElem?_eq_getElem hj]; rfl)
    refine ite2 (fun y => ?_) (fun y => ?_)
    · exact ⟨fun σ' H' => σ' = [some (.ref p), some (.int (j : Int))] ∧ H' = H1, fun σ' H' h => ⟨j, by omega, by omega, h.1, h.2⟩, .int ((j + 1 : Nat) : Int), rfl, _, _, rfl, rfl, by rw [← ej]; rfl, rfl⟩
    · exact ⟨.ref p, rfl, .int ((j + 1 : Nat) : Int), rfl, _, rfl, p, _, rfl, SqL.of hp, last⟩
  · exact ⟨.ref p, rfl, .int m, rfl, _, rfl, p, _, rfl, SqL.of hp, last⟩
theorem scNumber : FnScope ["_law_well_here", "_law_kind"] ["_law_well_here"] (defScope sNumber) := ⟨rfl, rfl, rfl, by decide +kernel, rfl, by decide +kernel, by decide +kernel⟩
theorem ok_number (D : Def K mg "_law_number" sNumber ["_law_well_here"]) (c1 : Cal P w K mg base "_law_draw" 1 ["_law_well_here", "_law_many"] spDraw) : Cal P w K mg base "_law_number" 2 ["_law_well_here"] spNum := by
  refine D.ok scNumber (fun vs H Q E h => ?_) (fun f cdv A out s H vs Q E hr h => ?_)
  · obtain ⟨a, rfl, _⟩ := h; rfl
  obtain ⟨a, rfl, hw, q⟩ := h
  have hb1 : B1 = 10 ^ 40 + 1000 := rfl
  refine ⟨_, (pss_cons (ps_set (i := 1) scNumber.nd rfl (Or.inl rfl) (pe_cal c1 hr (by omega) (by rfl) (pa_cons (pv 0) (pa_cons pe_int pa_nil))))
    (pss_cons (ps_if (pt_cmpR op_lt (pv 1) pe_int (nomark _)) (pss_one (ps_ret (pe_ix (r := rIxT K) ix_tup (pe_lit _ (d := .tuple [.int 0, .int 1, .int (-1), .int 0, .int 2, .int 3, .int 0, .int (-2), .int 5, .int 1]) (by rfl)) (pv 1) (fun _ _ => rfl)))) pss_nil)
    (pss_one (ps_ret (pe_ifExp (pt_cmpR op_eq (pv 1) pe_int (nomark _)) (pe_op op_sub (pe_cal c1 hr (by omega) (by rfl) (pa_cons (pv 0) (pa_cons pe_int pa_nil))) pe_int) (pe_op op_sub (pe_lit _ (d := .int (10 ^ 40)) (by rfl)) (pe_cal c1 hr (by omega) (by rfl) (pa_cons (pv 0) (pa_cons pe_int pa_nil))))))))), ?_⟩
  walk_at "rd"
  refine ⟨.ref a, rfl, a, _, rfl, hw, by decide, by decide, fun r H1 r0 r1 k1 w1 => ?_⟩
  refine ⟨.int r, rfl, _, _, rfl, rfl, _, rfl, ite2 (fun z => ?_) (fun z => ?_)⟩
  · have z := of_decide_eq_true z
    refine ⟨a, w1.some, fun v H2 s2 dv => ⟨.int r, rfl, ix_da dv r0 (by simpa using z) fun x d hm hx => ?_⟩⟩
    obtain ⟨i, rfl, hi⟩ := num_of hx ((by decide : ∀ d ∈ ([.int 0, .int 1, .int (-1), .int 0, .int 2, .int 3, .int 0, .int (-2), .int 5, .int 1] : List PyData), numB d = true) d hm)
    exact q i H2 (k1.trans (Kp.of s2)) (w1.to s2) (by rw [hb1]; omega)
  · refine ⟨.int r, rfl, rfl, _, rfl, ite2 (fun y => ?_) (fun y => ?_)⟩
    · refine ⟨.ref a, rfl, a, _, rfl, w1, by decide, by decide, fun t H2 t0 t1 k2 w2 => ⟨_, _, rfl, rfl, q _ H2 (k1.trans k2) w2 (by rw [hb1]; omega)⟩⟩
    · refine ⟨a, w1.some, fun v H2 s2 dv => ?_⟩
      cases dv
      exact ⟨.ref a, rfl, a, _, rfl, w1.to s2, by decide, by decide, fun t H3 t0 t1 k3 w3 => ⟨_, _, rfl, rfl, q _ H3 ((k1.trans (Kp.of s2)).trans k3) w3 (by rw [hb1]; omega)⟩⟩
end
end K43

set_option Elab.async false
set_option linter.all false
set_option maxRecDepth 100000
set_option maxHeartbeats 8000000
local macro_rules | `(tactic| walk_at "rd") => `(tactic| dsimp only [Evl.tCut, L2.tSeq, L2.tNext, L2.tRet, L2.tRetN, L2.tAsg, L2.gName, L2.tIfS, L2.tDrop, L2.tCons, L2.tNil, L2.tC, L2.tVar, L2.tCB, L2.tAndV, L2.tOrV, L2.tNotV, L2.tB, L2.tTest, L2.tOp, L2.tUn, L2.tNot, L2.tAnd, L2.tOr, L2.tIf, L2.tCall, L2.tTup, L2.tLst, L2.tNotT, L2.tYes, L2.gTup, L2.gCons, L2.gNil, L2.gSub, L2.tBM0, L2.tBM, L2.tWhile, L2.tFor, L2.iRng1, L2.iRng2, L2.tAugS, Tw.iEnumT, L2.tCKw, L2.tAug, L2.ipI, RT.iRevA, L2.tPar, L2.tPar3, L2.tSl, L2.tNoPart, L2.tPart, Tw.tRevT, Tw.tFput])
namespace K43
open PySem PySem.Spec PyProof.Rows L2 Tw
theorem das_nums {a : Addr} {H : Hp} : ∀ {ms : List Int} {ys : List V}, DaAll a H ys (ms.map PyData.int) → ys = ms.map V.int
  | [], _, h => by cases h; rfl
  | m :: ms, _, h => by
    cases h with
    | cons h1 h2 => cases h1; rw [das_nums (ms := ms) h2]; rfl
theorem das_rows {a : Addr} {H H' : Hp} (k : ∀ b zs, b ≠ a → H b = some (.tup zs) → H' b = some (.tup zs)) : ∀ {xs : List V} {ds : List PyData}, (∀ d ∈ ds, RowD d) → DaAll a H xs ds → DaAll a H' xs ds
  | _, _, _, .nil => .nil
  | _, d :: ds, hr, .cons h t => by
    refine .cons ?_ (das_rows k (fun e m => hr e (by simp [m])) t)
    obtain ⟨ms, rfl, _, _⟩ := hr d (by simp)
    obtain ⟨p, ys, rfl, np, hp, hy⟩ := da_tup h
    have e := das_nums hy
    subst e
    exact .tup np (k _ _ np hp) (da_nums ms)
theorem rowd_lay {d : PyData} (h : RowD d) : d.canLay0 = true ∧ PyData.depth d ≤ 1 := by
  obtain ⟨ms, rfl, _, _⟩ := h
  refine ⟨?_, ?_⟩
  · rw [PyData.canLay0]
    refine lay1_of fun e m => ?_
    obtain ⟨i, _, rfl⟩ := List.mem_map.mp m
    rfl
  · rw [PyData.depth]
    refine Nat.succ_le_succ (dpt1_le fun e m => ?_)
    obtain ⟨i, _, rfl⟩ := List.mem_map.mp m
    exact Nat.le_refl _
theorem rowd_int {i j : Int} (h : i.natAbs ≤ B1) (g : j.natAbs ≤ B1) : RowD (.tuple [.int i, .int j]) := ⟨[i, j], rfl, (show 2 ≤ 6 by decide), fun m hm => by simp at hm; rcases hm with rfl | rfl <;> assumption⟩
theorem rowd_one {i : Int} (h : i.natAbs ≤ B1) : RowD (.tuple [.int i]) := ⟨[i], rfl, (show 1 ≤ 6 by decide), fun m hm => by simp at hm; rw [hm]; exact h⟩
theorem pold_one {r : PyData} (h : RowD r) : PolD (.tuple [r]) := ⟨[r], rfl, (show 1 ≤ 6 by decide), fun e he => by rw [List.mem_singleton.mp he]; exact h⟩
theorem pold_nil : PolD (.tuple []) := ⟨[], rfl, Nat.zero_le _, fun e he => nomatch he⟩
def spLPoly : Sp := fun vs H Q _ => ∃ a, vs = [.ref a] ∧ We a H ∧ ∀ v d H', Kp a H H' → We a H' → Da a H' v d → PolD d → Q v H'
theorem we_upd {a L : Addr} {H : Hp} {o : HO} (h : We a H) (n : L ≠ a) : We a (upd H L o) := by
  obtain ⟨x, y, z, e⟩ := h
  exact ⟨x, y, z, by rw [upd_ne n.symm]; exact e⟩
section
variable {P : Program} {w : World} {K : PySem.W.Frag} {mg : Str → Option Value} {base : Heap}
theorem scLPoly : FnScope ["_law_well_here", "_law_kind", "_law_most", "_law_found", "_law_lap", "_law_figures", "_law_turn"] ["_law_well_here"] (defScope sLPoly) := ⟨rfl, rfl, rfl, by decide +kernel, rfl, by decide +kernel, by decide +kernel⟩
theorem ok_lpoly (D : Def K mg "_law_poly" sLPoly ["_law_well_here"]) (nb : Nb mg) (c1 : Cal P w K mg base "_law_draw" 1 ["_law_well_here", "_law_many"] spDraw) (c2 : Cal P w K mg base "_law_number" 2 ["_law_well_here"] spNum) (c3 : Cal P w K mg base "_law_row" 1 ["_law_some"] spLRow) : Cal P w K mg base "_law_poly" 3 ["_law_well_here"] spLPoly := by
  refine D.ok scLPoly (fun vs H Q E h => ?_) (fun f cdv A out s H vs Q E hr h => ?_)
  · obtain ⟨a, rfl, _⟩ := h; rfl
  obtain ⟨a, rfl, hw, q⟩ := h
  have hb1 : B1 = 10 ^ 40 + 1000 := rfl
  refine ⟨_, Evl.pss_cut (ps_par (i := 1) (j := 2) rfl scLPoly.nd rfl rfl (by decide) rfl rfl (pa_cons (pe_cal c1 hr (by omega) (by rfl) (pa_cons (pv 0) (pa_cons pe_int pa_nil))) (pa_cons (pe_ifExp (pt_cmpR op_eq (pe_cal c1 hr (by omega) (by rfl) (pa_cons (pv 0) (pa_cons pe_int pa_nil))) pe_int (nomark _)) pe_int pe_int) pa_nil)) rfl) ((pss_cons (ps_if (pt_cmpR op_eq (pv 1) pe_int (nomark _)) (pss_one (ps_ret (pe_ix (r := rIxT K) ix_tup (pe_tup (pa_cons (pe_tup pa_nil) (pa_cons (pe_tup (pa_cons (pe_tup (pa_cons (pe_op op_add (pe_cal c2 hr (by omega) (by rfl) (pa_cons (pv 0) pa_nil)) pe_int) (pa_cons pe_int pa_nil))) pa_nil)) (pa_cons (pe_tup (pa_cons (pe_tup (pa_cons pe_int pa_nil)) pa_nil)) pa_nil)))) (pe_cal c1 hr (by omega) (by rfl) (pa_cons (pv 0) (pa_cons pe_int pa_nil))) (fun _ _ => rfl)))) pss_nil)
    (pss_cons (ps_set (i := 3) scLPoly.nd rfl (Or.inl rfl) (pe_lst pa_nil))
    (pss_cons (ps_for PassesOwn.never rfl (pi_range1 (by rfl) nb.rng (pa_cons (pe_op op_add pe_int (pe_cal c1 hr (by omega) (by rfl) (pa_cons (pv 0) (pa_cons (pe_ifExp (pt_cmpR op_eq (pv 1) pe_int (nomark _)) (pv 2) pe_int) pa_nil)))) pa_nil)) (pg_name (i := 4) scLPoly.nd rfl (Or.inl rfl)) (pss_cons (ps_set (i := 5) scLPoly.nd rfl (Or.inl rfl) (pe_lst pa_nil))
    (pss_cons (ps_for PassesOwn.never rfl (pi_range1 (by rfl) nb.rng (pa_cons (pe_cal c1 hr (by omega) (by rfl) (pa_cons (pv 0) (pa_cons (pe_ifExp (pt_cmpR op_eq (pv 1) pe_int (nomark _)) (pe_op op_add (pv 2) pe_int) pe_int) pa_nil))) pa_nil)) (pg_name (i := 6) scLPoly.nd rfl (Or.inl rfl)) (pss_one (ps_expr (pe_bm PySem.F.plainAttrs_list PySem.F.slot_list_append PySem.F.type_list_append mt_append (pv 5) (pa_cons (pe_cal c2 hr (by omega) (by rfl) (pa_cons (pv 0) pa_nil)) pa_nil)))))
    (pss_one (ps_expr (pe_bm PySem.F.plainAttrs_list PySem.F.slot_list_append PySem.F.type_list_append mt_append (pv 3) (pa_cons (pe_cal c3 hr (by omega) (by rfl) (pa_cons (pv 5) pa_nil)) pa_nil)))))))
    (pss_cons (ps_while PassesOwn.never (PW.pt (pw_and (pt_cmpR (op_neD hr.units) (pv 3) (pe_lst pa_nil) (nomark _)) (pw_and1 (pt_cmpR (op_eqT0 hr.units) (pe_ix ix_list (pv 3) (pe_un un_neg pe_int) (fun _ _ => rfl)) (pe_tup pa_nil) (nomark _))))) (pss_one (ps_expr (pe_bm0 PySem.F.plainAttrs_list PySem.F.slot_list_pop PySem.F.type_list_pop mt_pop (pv 3)))))
    (pss_one (ps_ret (pe_callTy (T := "tuple") call_tuple_of (by rfl) nb.tup (by decide +kernel) (pa_cons (pv 3) pa_nil))))))))), ?_⟩
  walk_at "rd"
  refine ⟨fun σ H' => ∃ kd mo : Int, 0 ≤ kd ∧ 5 ≤ mo ∧ mo ≤ 6 ∧ σ = [some (.ref a), some (.int kd), some (.int mo), none, none, none, none] ∧ Kp a H H' ∧ We a H', ?_, ?_⟩
  · refine ⟨.ref a, rfl, a, _, rfl, hw, by decide, by decide, fun kd H1 k0 k1 kp1 w1 => ?_⟩
    refine ⟨.ref a, rfl, a, _, rfl, w1, by decide, by decide, fun md H2 m0 m1 kp2 w2 => ⟨rfl, _, rfl, ?_⟩⟩
    refine ite2 (fun _ => ⟨_, _, rfl, kd, 6, k0, by decide, by decide, rfl, kp1.trans kp2, w2⟩) (fun _ => ⟨_, _, rfl, kd, 5, k0, by decide, by decide, rfl, kp1.trans kp2, w2⟩)
  rintro σ H2 ⟨kd, mo, k0, mo5, mo6, rfl, kp2, w2⟩
  refine ⟨.int kd, rfl, rfl, _, rfl, ite2 (fun z => ?_) (fun z => ?_)⟩
  · refine ⟨sz (by decide), fun p1 n1 => ?_⟩
    obtain ⟨s3, d1⟩ := newT w2.some DaAll.nil n1
    generalize upd H2 p1 (.tup []) = H3 at s3 d1 ⊢
    have kp3 := kp2.trans (Kp.of s3)
    have w3 := w2.to s3
    refine ⟨.ref a, rfl, a, rfl, w3, fun i H4 kp4 w4 hi => ⟨_, _, rfl, rfl, sz (by simp), fun p2 n2 => ?_⟩⟩
    obtain ⟨s5, d2⟩ := newT w4.some (DaAll.cons (.int (i + 1)) (DaAll.cons (.int 1) .nil)) n2
    generalize upd H4 p2 _ = H5 at s5 d2 ⊢
    have kp5 := (kp3.trans kp4).trans (Kp.of s5)
    have w5 := w4.to s5
    refine ⟨sz (by simp), fun p3 n3 => ?_⟩
    obtain ⟨s6, d3⟩ := newT w5.some (DaAll.cons d2 .nil) n3
    generalize upd H5 p3 _ = H6 at s6 d3 ⊢
    have w6 := w5.to s6
    refine ⟨sz (by simp), fun p4 n4 => ?_⟩
    obtain ⟨s7, d4⟩ := newT w6.some (DaAll.cons (.int 4) .nil) n4
    generalize upd H6 p4 _ = H7 at s7 d4 ⊢
    have w7 := w6.to s7
    refine ⟨sz (by simp), fun p5 n5 => ?_⟩
    obtain ⟨s8, d5⟩ := newT w7.some (DaAll.cons d4 .nil) n5
    generalize upd H7 p5 _ = H8 at s8 d5 ⊢
    have w8 := w7.to s8
    refine ⟨sz (by simp), fun p6 n6 => ?_⟩
    have s58 := (s6.trans s7).trans s8
    obtain ⟨s9, d6⟩ := newT w8.some (DaAll.cons (((d1.kp kp4).same s5).same s58) (DaAll.cons ((d3.same s7).same s8) (DaAll.cons d5 .nil))) n6
    generalize upd H8 p6 _ = H9 at s9 d6 ⊢
    have w9 := w8.to s9
    have kp9 := (kp5.trans (Kp.of s58)).trans (Kp.of s9)
    refine ⟨.ref a, rfl, a, _, rfl, w9, by decide, by decide, fun r H10 r0 r1 kp10 w10 => ix_da (d6.kp kp10) r0 (by simpa using r1) fun x d hm hx => ?_⟩
    refine q x d H10 (kp9.trans kp10) w10 hx ?_
    rcases List.mem_cons.mp hm with rfl | hm
    · exact pold_nil
    rcases List.mem_cons.mp hm with rfl | hm
    · exact pold_one (rowd_int (by omega) (by rw [hb1]; decide))
    · rw [List.mem_singleton.mp hm]
      exact pold_one (rowd_one (by rw [hb1]; decide))
  · refine ⟨sz (by decide), fun L nL => ?_⟩
    have La : L ≠ a := w2.ne nL
    have k3 : Kp a H2 (upd H2 L (.lst [])) := kp_new nL
    have w3 : We a (upd H2 L (.lst [])) := we_new (o := .lst []) w2 nL
    have e3 : upd H2 L (.lst []) L = some (.lst []) := upd_same
    generalize upd H2 L (.lst []) = H3 at k3 w3 e3 ⊢
    refine ⟨.ref a, rfl, .int kd, rfl, rfl, _, rfl, ite2 (fun _ => ⟨.int mo, rfl, ?_⟩) (fun _ => ?_)⟩
    all_goals
      refine ⟨a, _, rfl, w3, by omega, by omega, fun cn H4 c0 c1 k4 w4 => ⟨_, _, rfl, rfl, 1 + cn, rfl, by omega, by omega, ?_⟩⟩
      refine for_rng (lo := 0) (n := (1 + cn).toNat) (fun i σ H' => ∃ (x4 x5 x6 : Option V) (xs : List V) (ds : List PyData), σ = [some (.ref a), some (.int kd), some (.int mo), some (.ref L), x4, x5, x6] ∧ Kp a H2 H' ∧ We a H' ∧ H' L = some (.lst xs) ∧ DaAll a H' xs ds ∧ ds.length = i ∧ ∀ d ∈ ds, RowD d) ?_ ?_ ?_
      · exact ⟨none, none, none, [], [], rfl, k3.trans k4, w4, k4 _ _ La e3, .nil, rfl, fun d hd => nomatch hd⟩
      · rintro i σ H5 hi ⟨x4, x5, x6, xs, ds, rfl, k5, w5, e5, d5, l5, r5⟩
        walk_at "rd"
        refine ⟨sz (by decide), fun F nF => ?_⟩
        have Fa : F ≠ a := w5.ne nF
        have k6 : Kp a H5 (upd H5 F (.lst [])) := kp_new nF
        have w6 : We a (upd H5 F (.lst [])) := we_new (o := .lst []) w5 nF
        have e6 : upd H5 F (.lst []) F = some (.lst (([] : List Int).map V.int)) := upd_same
        generalize upd H5 F (.lst []) = H6 at k6 w6 e6 ⊢
        refine ⟨.ref a, rfl, .int kd, rfl, rfl, _, rfl, ite2 (fun _ => ⟨.int mo, rfl, _, _, rfl, rfl, ?_⟩) (fun _ => ?_)⟩
        all_goals
          refine ⟨a, _, rfl, w6, by omega, by omega, fun cm H7 cm0 cm1 k7 w7 => ⟨cm, rfl, by omega, by omega, ?_⟩⟩
          refine for_rng (lo := 0) (n := cm.toNat) (fun j σ H' => ∃ (x6 : Option V) (ns : List Int), σ = [some (.ref a), some (.int kd), some (.int mo), some (.ref L), some (.int (0 + (i : Int))), some (.ref F), x6] ∧ Kp a H5 H' ∧ We a H' ∧ H' F = some (.lst (ns.map V.int)) ∧ ns.length = j ∧ ∀ c ∈ ns, c.natAbs ≤ B1) ?_ ?_ ?_
          · exact ⟨x6, [], rfl, k6.trans k7, w7, k7 _ _ Fa e6, rfl, fun c hc => nomatch hc⟩
          · rintro j σ H8 hj ⟨x7, ns, rfl, k8, w8, e8, l8, b8⟩
            walk_at "rd"
            refine ⟨.ref F, rfl, .inl ⟨rfl, _, SqL.of e8⟩, .ref a, rfl, a, rfl, w8, fun t H9 k9 w9 hb => ⟨F, ns.map V.int, .int t, rfl, rfl, k9 _ _ Fa e8, ?_, ?_⟩⟩
            · rw [List.length_map]; exact lt_line (by omega)
            · exact ⟨some (.int (0 + (j : Int))), ns ++ [t], rfl, kp_upd (k8.trans k9) nF, we_upd w9 Fa, by rw [upd_same, List.map_append]; rfl, by simp [l8], fun c hc => by
                rcases List.mem_append.mp hc with hc | hc
                · exact b8 c hc
                · rw [List.mem_singleton.mp hc]; omega⟩
          · rintro σ H8 ⟨x7, ns, rfl, k8, w8, e8, l8, b8⟩
            have LF : L ≠ F := fun z => by rw [z, nF] at e5; cases e5
            refine ⟨.ref L, rfl, .inl ⟨rfl, _, SqL.of (k8 _ _ La e5)⟩, .ref F, rfl, a, F, ns, rfl, w8.some, e8, by omega, fun v kk H9 s9 d9 => ⟨L, xs, v, rfl, rfl, s9 _ _ (k8 _ _ La e5), ?_, ?_⟩⟩
            · rw [d5.len]; exact lt_line (by omega)
            · have k9 := k8.trans (Kp.of s9)
              have hrow : RowD (.tuple ((ns.take kk).map .int)) := ⟨ns.take kk, rfl, by rw [List.length_take]; omega, fun m hm => b8 m (List.mem_of_mem_take hm)⟩
              refine ⟨some (.int (0 + (i : Int))), some (.ref F), x7, xs ++ [v], ds ++ [.tuple ((ns.take kk).map .int)], rfl, kp_upd (k5.trans k9) nL, we_upd (w8.to s9) La, upd_same, ?_, by simp [l5], fun d hd => ?_⟩
              · refine das_rows (H := H9) (fun b zs nb hb => ?_) (fun d hd => ?_) ((d5.kp k9).append (.cons d9 .nil))
                · rw [upd_ne (fun z => by rw [z, s9 _ _ (k8 _ _ La e5)] at hb; cases hb)]; exact hb
                · rcases List.mem_append.mp hd with hd | hd
                  · exact r5 d hd
                  · rw [List.mem_singleton.mp hd]; exact hrow
              · rcases List.mem_append.mp hd with hd | hd
                · exact r5 d hd
                · rw [List.mem_singleton.mp hd]; exact hrow
      · rintro σ H5 ⟨x4, x5, x6, xs, ds, rfl, k5, w5, e5, d5, l5, r5⟩
        have lx := d5.len
        refine ⟨fun m σ H' => m ≤ xs.length ∧ σ = [some (.ref a), some (.int kd), some (.int mo), some (.ref L), x4, x5, x6] ∧ Kp a H2 H' ∧ We a H' ∧ H' L = some (.lst (xs.take m)) ∧ DaAll a H' xs ds, ⟨xs.length, Nat.le_refl _, rfl, k5, w5, by rw [List.take_length]; exact e5, d5⟩, ?_⟩
        rintro m σ H6 ⟨hm, rfl, k6, w6, e6, d6⟩
        have fin : ∀ H7, Kp a H2 H7 → We a H7 → H7 L = some (.lst (xs.take m)) → DaAll a H7 xs ds → ∃ (p : Addr) (ys : List V), [V.ref L] = [.ref p] ∧ ((SqL K H7 p ys ∧ ∀ l, H7 l = none → Q (.ref l) (upd H7 l (.tup ys))) ∨ (SqT K H7 p ys ∧ Q (.ref p) H7)) := fun H7 k7 w7 e7 d7 => by
          refine ⟨L, _, rfl, .inl ⟨SqL.of e7, fun z nz => ?_⟩⟩
          obtain ⟨s8, d8⟩ := newT w7.some (d7.take m) nz
          exact q _ _ _ ((kp2.trans k7).trans (Kp.of s8)) (w7.to s8) d8 ⟨_, rfl, by rw [List.length_take]; omega, fun r hr => r5 r (List.mem_of_mem_take hr)⟩
        refine ⟨.ref L, rfl, sz (by decide), fun t nt => ?_⟩
        have s7 := same_new (o := .lst []) nt
        have tL : t ≠ L := fun z => by rw [z, e6] at nt; cases nt
        have eT : upd H6 t (.lst []) t = some (.lst []) := upd_same
        generalize upd H6 t (.lst []) = H7 at s7 eT ⊢
        have k7 := k6.trans (Kp.of s7)
        have w7 := w6.to s7
        have e7 := s7 _ _ e6
        have d7 := d6.same s7
        have lay : (PyData.list (ds.take m)).canLay0 = true := by
          rw [PyData.canLay0]
          exact lay1_of fun e he => (rowd_lay (r5 e (List.mem_of_mem_take he))).1
        have shp : SeqAt.shaped (.list (ds.take m)) = true := by
          unfold SeqAt.shaped
          rw [lay]
          have : PyData.depth (.list (ds.take m)) ≤ 2 := by
            rw [PyData.depth]
            exact Nat.succ_le_succ (dpt1_le fun e he => (rowd_lay (r5 e (List.mem_of_mem_take he))).2)
          rw [decide_eq_true (by omega)]
          rfl
        refine ⟨.list (ds.take m), .list [], (Da.lst La e7 (d7.take m)).dp lay, .lst (SqL.of eT) .nil, shp, by decide, _, rfl, ?_⟩
        cases m with
        | zero => exact iteF ⟨.ref L, rfl, fin H7 k7 w7 e7 d7⟩
        | succ j =>
          have hj : j < xs.length := by omega
          have hjd : j < ds.length := by omega
          have et : xs.take (j + 1) = xs.take j ++ [xs[j]] := by rw [List.take_add_one, List.getElem?_eq_getElem hj]; rfl
          have ed : ds.take (j + 1) = ds.take j ++ [ds[j]] := by rw [List.take_add_one, List.getElem?_eq_getElem hjd]; rfl
          have ne : (!PyData.eqv (.list (ds.take (j + 1))) (.list [])) = true := by
            rw [ed]
            cases ds.take j <;> simp [PyData.eqv, PyData.eqvAll]
          rw [ne]
          obtain ⟨dj, g1, g2⟩ := d7.get (List.getElem?_eq_getElem hj)
          obtain ⟨ms, rfl, _, _⟩ := r5 dj (List.mem_of_getElem? g1)
          obtain ⟨pj, zs, ej, nj, hpj, hz⟩ := da_tup g2
          refine iteT ⟨.ref L, rfl, 1, rfl, L, _, -1, xs[j], rfl, rfl, SqL.of e7, by rw [et]; exact atI_last _ _, sz (by decide), fun t2 nt2 => ?_⟩
          have s8 := same_new (o := .tup []) nt2
          refine ⟨pj, t2, zs, [], ej, rfl, SqT.of (s8 _ _ hpj), SqT.of upd_same, rfl, _, rfl, ?_⟩
          rw [if_neg Bool.false_ne_true]
          have k8 := k7.trans (Kp.of s8)
          have w8 := w7.to s8
          have e8 := s8 _ _ e7
          have d8 := d7.same s8
          generalize upd H7 t2 (.tup []) = H8 at k8 w8 e8 d8 ⊢
          refine ite2 (fun y => ?_) (fun y => ⟨.ref L, rfl, fin H8 k8 w8 e8 d8⟩)
          refine ⟨fun σ' H' => σ' = [some (.ref a), some (.int kd), some (.int mo), some (.ref L), x4, x5, x6] ∧ Kp a H2 H' ∧ We a H' ∧ H' L = some (.lst (xs.take j)) ∧ DaAll a H' xs ds, fun σ' H' h => ⟨j, by omega, by omega, h⟩, .ref L, rfl, .inl ⟨rfl, _, SqL.of e8⟩, ?_⟩
          refine ⟨L, xs.take (j + 1), xs[j], rfl, rfl, e8, getLast_get (by rw [et, List.getLast?_concat]), rfl, kp_upd k8 nL, we_upd w8 La, by rw [upd_same, et, List.dropLast_concat], ?_⟩
          refine das_rows (H := H8) (fun b zs nb hb => ?_) r5 d8
          rw [upd_ne (fun z => by rw [z, e8] at hb; cases hb)]
          exact hb
end
end K43

set_option Elab.async false
set_option linter.all false
set_option maxRecDepth 100000
set_option maxHeartbeats 8000000
local macro_rules | `(tactic| walk_at "rd") => `(tactic| dsimp only [Evl.tCut, L2.tSeq, L2.tNext, L2.tRet, L2.tRetN, L2.tAsg, L2.gName, L2.tIfS, L2.tDrop, L2.tCons, L2.tNil, L2.tC, L2.tVar, L2.tCB, L2.tAndV, L2.tOrV, L2.tNotV, L2.tB, L2.tTest, L2.tOp, L2.tUn, L2.tNot, L2.tAnd, L2.tOr, L2.tIf, L2.tCall, L2.tTup, L2.tLst, L2.tNotT, L2.tYes, L2.gTup, L2.gCons, L2.gNil, L2.gSub, L2.tBM0, L2.tBM, L2.tWhile, L2.tFor, L2.iRng1, L2.iRng2, L2.tAugS, Tw.iEnumT, L2.tCKw, L2.tAug, L2.ipI, RT.iRevA, L2.tPar, L2.tPar3, L2.tSl, L2.tNoPart, L2.tPart, Tw.tRevT, Tw.tFput])
namespace K43
open PySem PySem.Spec PyProof.Rows L2 Tw
/-! drawn sayings: a well and a count -/
def K2 (a c : Addr) (H H' : Hp) : Prop := ∀ b o, b ≠ a → b ≠ c → H b = some o → H' b = some o
theorem K2.refl (a c : Addr) (H : Hp) : K2 a c H H := fun _ _ _ _ e => e
theorem K2.trans {a c : Addr} {H H1 H2 : Hp} (h : K2 a c H H1) (g : K2 a c H1 H2) : K2 a c H H2 := fun b o x y e => g b o x y (h b o x y e)
theorem K2.of {a c : Addr} {H H1 : Hp} (h : Kp a H H1) : K2 a c H H1 := fun b o x _ e => h b o x e
mutual
theorem da_two {a c : Addr} {H H' : Hp} (k : K2 a c H H') : ∀ {v : V} {d : PyData}, Da a H v d → Da c H v d → Da a H' v d
  | _, _, .non, _ => .non
  | _, _, .bl b, _ => .bl b
  | _, _, .int i, _ => .int i
  | _, _, .str x, _ => .str x
  | _, _, .lst n h t, g => by
    obtain ⟨p, xs, e, nc, hp, tc⟩ := da_lst g
    cases e
    rw [h] at hp
    cases hp
    exact .lst n (k _ _ n nc h) (das_two k t tc)
  | _, _, .tup n h t, g => by
    obtain ⟨p, xs, e, nc, hp, tc⟩ := da_tup g
    cases e
    rw [h] at hp
    cases hp
    exact .tup n (k _ _ n nc h) (das_two k t tc)
  | _, _, .dct n h, g => by
    cases g with
    | dct nc hp => exact .dct n (k _ _ n nc h)
theorem das_two {a c : Addr} {H H' : Hp} (k : K2 a c H H') : ∀ {vs : List V} {ds : List PyData}, DaAll a H vs ds → DaAll c H vs ds → DaAll a H' vs ds
  | _, _, .nil, _ => .nil
  | _, _, .cons h t, g => by
    cases g with
    | cons g1 g2 => exact .cons (da_two k h g1) (das_two k t g2)
end
theorem K2.sym {a c : Addr} {H H' : Hp} (k : K2 a c H H') : K2 c a H H' := fun b o x y e => k b o y x e
/-- reached without the well and the count -/
def Db (a c : Addr) (H : Hp) (v : V) (d : PyData) : Prop := Da a H v d ∧ Da c H v d
theorem Db.k2 {a c : Addr} {H H' : Hp} {v : V} {d : PyData} (h : Db a c H v d) (k : K2 a c H H') : Db a c H' v d := ⟨da_two k h.1 h.2, da_two k.sym h.2 h.1⟩
structure Ctx (a c L : Addr) (H : Hp) (ps : List PyData) : Prop where
  w : We a H
  ca : c ≠ a
  cn : ∃ k : Int, 0 ≤ k ∧ H c = some (.lst [.int k])
  La : L ≠ a
  Lc : L ≠ c
  ls : ∃ xs, H L = some (.lst xs) ∧ DaAll a H xs ps ∧ DaAll c H xs ps
theorem Ctx.k2 {a c L : Addr} {H H' : Hp} {ps : List PyData} (x : Ctx a c L H ps) (k : K2 a c H H') (w : We a H') (cn : ∃ k : Int, 0 ≤ k ∧ H' c = some (.lst [.int k])) : Ctx a c L H' ps := by
  obtain ⟨xs, h1, h2, h3⟩ := x.ls
  exact ⟨w, x.ca, cn, x.La, x.Lc, xs, k _ _ x.La x.Lc h1, das_two k h2 h3, das_two k.sym h3 h2⟩
theorem Ctx.kp {a c L : Addr} {H H' : Hp} {ps : List PyData} (x : Ctx a c L H ps) (k : Kp a H H') (w : We a H') : Ctx a c L H' ps := by
  obtain ⟨j, j0, e⟩ := x.cn
  exact x.k2 (K2.of k) w ⟨j, j0, k _ _ x.ca e⟩
theorem Ctx.cs {a c L : Addr} {H : Hp} {ps : List PyData} (x : Ctx a c L H ps) : H c ≠ none := by
  obtain ⟨j, j0, e⟩ := x.cn
  rw [e]; nofun
theorem newT2 {a c p : Addr} {H : Hp} {vs : List V} {ds : List PyData} (wa : H a ≠ none) (wc : H c ≠ none) (h : DaAll a H vs ds) (g : DaAll c H vs ds) (n : H p = none) : Same H (upd H p (.tup vs)) ∧ Db a c (upd H p (.tup vs)) (.ref p) (.tuple ds) := by
  obtain ⟨s1, d1⟩ := newT wa h n
  obtain ⟨_, d2⟩ := newT wc g n
  exact ⟨s1, d1, d2⟩
def Ps (ps : List PyData) : Prop := 0 < ps.length ∧ ps.length ≤ 100 ∧ ∀ p ∈ ps, PolD p
/-- how large -/
def wt (fl : Bool) (n : Nat) : Nat := if fl then 64 * 2 ^ n - 10 else if n ≤ 1 then 60 else 130 + 140 * (n - 2)
theorem wt_one (fl : Bool) {n : Nat} (h : 1 ≤ n) : 60 ≤ wt fl n := by
  unfold wt
  have : 2 ^ 1 ≤ 2 ^ n := Nat.pow_le_pow_right (by decide) h
  cases fl with
  | true => rw [if_pos rfl]; omega
  | false =>
    rw [if_neg Bool.false_ne_true]
    split <;> omega
theorem wt_step (fl : Bool) {n : Nat} (h : 2 ≤ n) : wt fl (n - 1) + 10 ≤ wt fl n := by
  unfold wt
  obtain ⟨m, rfl⟩ : ∃ m, n = m + 1 := ⟨n - 1, by omega⟩
  have : 2 ^ 1 ≤ 2 ^ m := Nat.pow_le_pow_right (by decide) (by omega)
  rw [Nat.add_sub_cancel, Nat.pow_succ]
  cases fl with
  | true => rw [if_pos rfl, if_pos rfl]; omega
  | false =>
    rw [if_neg Bool.false_ne_true, if_neg Bool.false_ne_true]
    split <;> split <;> omega
theorem wt_both (fl : Bool) {n m : Nat} (h : 2 ≤ n) (m0 : 1 ≤ m) (h1 : fl = true → m = n - 1) (h2 : fl = false → m ≤ 2 ∧ m ≤ n - 1) : wt fl (n - 1) + wt fl m + 10 ≤ wt fl n := by
  unfold wt
  cases fl with
  | true =>
    obtain ⟨k, rfl⟩ : ∃ k, n = k + 1 := ⟨n - 1, by omega⟩
    rw [h1 rfl]
    have : 2 ^ 1 ≤ 2 ^ k := Nat.pow_le_pow_right (by decide) (by omega)
    simp only [if_true, Nat.add_sub_cancel, Nat.pow_succ]
    omega
  | false =>
    obtain ⟨g1, g2⟩ := h2 rfl
    rw [if_neg Bool.false_ne_true, if_neg Bool.false_ne_true, if_neg Bool.false_ne_true]
    split <;> split <;> split <;> omega
theorem b1_b2 : B1 ≤ B2 := by decide
theorem rowd_ls {d : PyData} (h : RowD d) : Ls B2 7 d ∧ Sm 1 10 d := by
  obtain ⟨ms, rfl, hl, hb⟩ := h
  have n1 : ∀ l : List Int, nd1 (l.map PyData.int) = l.length := fun l => by
    induction l with
    | nil => rfl
    | cons i l ih => rw [List.map_cons, nd1, ih, List.length_cons]; rw [show nd (.int i) = 1 from by rw [nd] <;> nofun]; omega
  refine ⟨⟨?_, by rw [nd, n1]; omega⟩, sm_tup (n := 0) (by rw [List.length_map]; omega) fun d hd => ?_⟩
  · rw [lf]
    refine lf1_of fun e m => ?_
    obtain ⟨i, hi, rfl⟩ := List.mem_map.mp m
    rw [lf]
    exact decide_eq_true (Nat.le_trans (hb i hi) b1_b2)
  · obtain ⟨i, hi, rfl⟩ := List.mem_map.mp hd
    exact sm_int _ _ _
theorem nd1_le {w : Nat} : ∀ {ds : List PyData}, (∀ d ∈ ds, nd d ≤ w) → nd1 ds ≤ w * ds.length
  | [], _ => Nat.zero_le _
  | d :: ds, h => by
    have := h d (by simp)
    have := nd1_le (ds := ds) fun e m => h e (by simp [m])
    rw [nd1, List.length_cons, Nat.mul_add]; omega
theorem pold_ls {d : PyData} (h : PolD d) : Ls B2 43 d ∧ Sm 2 10 d := by
  obtain ⟨ds, rfl, hl, hb⟩ := h
  have h1 := nd1_le (w := 7) fun e m => (rowd_ls (hb e m)).1.2
  refine ⟨⟨by rw [lf]; exact lf1_of fun e m => (rowd_ls (hb e m)).1.1, by rw [nd]; omega⟩, sm_tup (n := 1) (by omega) fun d hd => (rowd_ls (hb d hd)).2⟩
def wordB (w : Str) : Bool := decide (w.cps.size ≤ 10) && w.cps.toList.all fun c => decide (c < 16 ^ 8)
theorem ls_word {w : Str} (h : wordB w = true) : Ls B2 11 (.str w) ∧ Sm 0 10 (.str w) := by
  unfold wordB at h
  rw [Bool.and_eq_true] at h
  have := of_decide_eq_true h.1
  exact ⟨⟨by rw [lf]; exact h.2, by rw [nd]; omega⟩, Nat.zero_le _, Nat.zero_le _⟩
def wordNB (n : Nat) (w : Str) : Bool := decide (w.cps.size + 1 ≤ n) && w.cps.toList.all fun c => decide (c < 16 ^ 8)
theorem ls_wordN {n m : Nat} {w : Str} (h : wordNB n w = true) : Ls B2 n (.str w) ∧ Sm m 10 (.str w) := by
  unfold wordNB at h
  rw [Bool.and_eq_true] at h
  have := of_decide_eq_true h.1
  exact ⟨⟨by rw [lf]; exact h.2, by rw [nd]; omega⟩, Nat.zero_le _, Nat.zero_le _⟩
theorem pick_word {a : Addr} {H : Hp} {l : List Str} {R : VK} {E : XK} (hw : We a H) (h0 : 0 < l.length) (h1 : l.length ≤ 20) (q : ∀ w H', w ∈ l → Kp a H H' → We a H' → R (.str w) H') :
    ∃ a' : Addr, H a' ≠ none ∧ ∀ v H1, Same H H1 → Da a' H1 v (.tuple (l.map PyData.str)) → spPick [.ref a, v] H1 R E := by
  refine ⟨a, hw.some, fun v H1 s1 dv => ?_⟩
  obtain ⟨p, xs, rfl, np, hp, hx⟩ := da_tup dv
  have lx := hx.len
  rw [List.length_map] at lx
  refine ⟨a, p, xs, rfl, hw.to s1, np, hp, fun z => by rw [z] at lx; simp at lx; omega, by omega, fun i x H2 hi k2 w2 => ?_⟩
  obtain ⟨d, e1, e2⟩ := hx.get hi
  obtain ⟨w, hw2, rfl⟩ := List.mem_map.mp (List.mem_of_getElem? e1)
  cases e2
  exact q w H2 hw2 ((Kp.of s1).trans k2) w2
theorem ls_tup1 {w W n : Nat} {d e : PyData} (h : Ls B2 w d ∧ Sm n 10 d) (g : Ls B2 W e ∧ Sm n 10 e) : Ls B2 (w + W + 1) (.tuple [d, e]) ∧ Sm (n + 1) 10 (.tuple [d, e]) := by
  have := h.1.2
  have := g.1.2
  refine ⟨⟨by rw [lf]; exact lf1_of fun x m => by (simp at m; rcases m with rfl | rfl <;> first | exact h.1.1 | exact g.1.1), by rw [nd, nd1, nd1, nd1]; omega⟩, sm_tup (show 2 ≤ 10 by decide) fun x m => ?_⟩
  simp at m
  rcases m with rfl | rfl
  · exact h.2
  · exact g.2
theorem ls_tup2 {w W X n : Nat} {d e f : PyData} (h : Ls B2 w d ∧ Sm n 10 d) (g : Ls B2 W e ∧ Sm n 10 e) (k : Ls B2 X f ∧ Sm n 10 f) : Ls B2 (w + W + X + 1) (.tuple [d, e, f]) ∧ Sm (n + 1) 10 (.tuple [d, e, f]) := by
  have := h.1.2
  have := g.1.2
  have := k.1.2
  refine ⟨⟨by rw [lf]; exact lf1_of fun x m => by (simp at m; rcases m with rfl | rfl | rfl <;> first | exact h.1.1 | exact g.1.1 | exact k.1.1), by rw [nd, nd1, nd1, nd1, nd1]; omega⟩, sm_tup (show 3 ≤ 10 by decide) fun x m => ?_⟩
  simp at m
  rcases m with rfl | rfl | rfl
  · exact h.2
  · exact g.2
  · exact k.2
theorem ls_one {w n : Nat} {d : PyData} (h : Ls B2 w d ∧ Sm n 10 d) : Ls B2 (w + 1) (.tuple [d]) ∧ Sm (n + 1) 10 (.tuple [d]) := by
  have := h.1.2
  refine ⟨⟨by rw [lf]; exact lf1_of fun x m => by (simp at m; rw [m]; exact h.1.1), by rw [nd, nd1, nd1]; omega⟩, sm_tup (show 1 ≤ 10 by decide) fun x m => ?_⟩
  simp at m
  rw [m]; exact h.2
theorem ls_up {w W n m : Nat} {d : PyData} (h : Ls B2 w d ∧ Sm n 10 d) (h1 : w ≤ W) (h2 : n ≤ m) : Ls B2 W d ∧ Sm m 10 d := ⟨h.1.up (Nat.le_refl _) h1, h.2.up h2 (Nat.le_refl _)⟩
def spLeaf : Sp := fun vs H Q _ => ∃ (a L c : Addr) (ps : List PyData), vs = [.ref a, .ref L, .ref c] ∧ Ctx a c L H ps ∧ Ps ps ∧ ∀ v d H', K2 a c H H' → Ctx a c L H' ps → Db a c H' v d → (Ls B2 60 d ∧ Sm 3 10 d) → Q v H'
def spMade (N : Nat) : Sp := fun vs H Q _ => ∃ (a L c : Addr) (ps : List PyData) (dp : Nat) (fl : Bool), vs = [.ref a, .ref L, .ref c, .int (dp : Int), .bl fl] ∧ Ctx a c L H ps ∧ Ps ps ∧ 1 ≤ dp ∧ dp ≤ N ∧ ∀ v d H', K2 a c H H' → Ctx a c L H' ps → Db a c H' v d → (Ls B2 (wt fl dp) d ∧ Sm (dp + 2) 10 d) → Q v H'
section
variable {P : Program} {w : World} {K : PySem.W.Frag} {mg : Str → Option Value} {base : Heap}
theorem scLeaf : FnScope ["_law_well_here", "_law_some", "_law_count", "_law_poly_here"] ["_law_well_here", "_law_some", "_law_count"] (defScope sLeaf) := ⟨rfl, rfl, rfl, by decide +kernel, rfl, by decide +kernel, by decide +kernel⟩
theorem ok_leaf (D : Def K mg "_law_leaf" sLeaf ["_law_well_here", "_law_some", "_law_count"]) (nb : Nb mg) (c1 : Cal P w K mg base "_law_draw" 1 ["_law_well_here", "_law_many"] spDraw) (cP : Cal P w K mg base "_law_pick" 2 ["_law_well_here", "_law_some"] spPick) : Cal P w K mg base "_law_leaf" 3 ["_law_well_here", "_law_some", "_law_count"] spLeaf := by
  refine D.ok scLeaf (fun vs H Q E h => ?_) (fun f cdv A out s H vs Q E hr h => ?_)
  · obtain ⟨a, L, c, ps, rfl, _⟩ := h; rfl
  obtain ⟨a, L, c, ps, rfl, cx, hps, q⟩ := h
  refine ⟨_, (pss_cons (ps_if (pt_cmpR op_eq (pe_cal c1 hr (by omega) (by rfl) (pa_cons (pv 0) (pa_cons pe_int pa_nil))) pe_int (nomark _)) (pss_one (ps_ret (pe_tup (pa_cons (pe_cal cP hr (by omega) (by rfl) (pa_cons (pv 0) (pa_cons (pe_lit _ (d := .tuple ((["true", "false"] : List Str).map PyData.str)) (by rfl)) pa_nil))) pa_nil)))) pss_nil)
    (pss_cons (ps_asg (pe_op op_add (pe_ix ix_list (pv 2) pe_int (fun _ _ => rfl)) pe_int) (pg_sub (pv 2) pe_int set_list))
    (pss_cons (ps_set (i := 3) scLeaf.nd rfl (Or.inl rfl) (pe_ix ix_list (pv 1) (pe_op op_mod (pe_callTy (T := "int") call_int1 (by rfl) nb.int (by decide +kernel) (pa_cons (pe_ix ix_list (pv 2) pe_int (fun _ _ => rfl)) pa_nil)) (pe_callB (id := "len") (r := rLn K) call_len_seq (by rfl) nb.len PySem.boot_len (pa_cons (pv 1) pa_nil))) (fun _ _ => rfl)))
    (pss_one (ps_ret (pe_tup (pa_cons (pe_cal cP hr (by omega) (by rfl) (pa_cons (pv 0) (pa_cons (pe_lit _ (d := .tuple ((["below", "at", "above", "not below", "not at", "not above"] : List Str).map PyData.str)) (by rfl)) pa_nil))) (pa_cons (pv 3) pa_nil)))))))), ?_⟩
  walk_at "rd"
  refine ⟨.ref a, rfl, a, _, rfl, cx.w, by decide, by decide, fun r H1 r0 r1 k1 w1 => ⟨rfl, _, rfl, ?_⟩⟩
  have cx1 := cx.kp k1 w1
  refine ite2 (fun z => ?_) (fun z => ?_)
  · refine ⟨.ref a, rfl, pick_word w1 (by decide) (by decide) fun wd H2 hwd k2 w2 => ⟨sz (by simp), fun p np => ?_⟩⟩
    have cx2 := cx1.kp k2 w2
    obtain ⟨s3, d3⟩ := newT2 w2.some cx2.cs (DaAll.cons (.str wd) .nil) (DaAll.cons (.str wd) .nil) np
    exact q _ _ _ (K2.of ((k1.trans k2).trans (Kp.of s3))) (cx2.kp (Kp.of s3) (w2.to s3)) d3 (ls_up (ls_one (ls_word ((by decide : ∀ w ∈ (["true", "false"] : List Str), wordB w = true) wd hwd))) (by decide) (by decide))
  · obtain ⟨kc, kc0, ec⟩ := cx1.cn
    refine ⟨.ref c, rfl, c, _, 0, .int kc, rfl, rfl, SqL.of ec, rfl, kc, 1, rfl, rfl, .ref c, rfl, c, _, 0, 0, rfl, rfl, ec, rfl, ?_⟩
    generalize hH2 : upd H1 c _ = H2
    have ec2 : H2 c = some (.lst [.int (kc + 1)]) := by rw [← hH2]; exact upd_same
    have k2 : K2 a c H1 H2 := by rw [← hH2]; exact fun b o na nc e => by rw [upd_ne nc]; exact e
    have w2 : We a H2 := by rw [← hH2]; exact we_upd w1 cx1.ca
    have cx2 := cx1.k2 k2 w2 ⟨kc + 1, by omega, ec2⟩
    have k2 := (K2.of k1).trans k2
    obtain ⟨xs, eL, da, dc⟩ := cx2.ls
    have lx := da.len
    obtain ⟨p0, p1, p2⟩ := hps
    have hm0 : 0 ≤ (kc + 1) % (xs.length : Int) := Int.emod_nonneg _ (by omega)
    have hm1 : (kc + 1) % (xs.length : Int) < xs.length := Int.emod_lt_of_pos _ (by omega)
    obtain ⟨m, em⟩ := Int.eq_ofNat_of_zero_le hm0
    have hm : m < xs.length := by omega
    refine ⟨.ref L, rfl, .ref c, rfl, c, _, 0, .int (kc + 1), rfl, rfl, SqL.of ec2, rfl, .inl ⟨kc + 1, rfl, .ref L, rfl, L, xs, rfl, .inl (SqL.of eL), _, _, rfl, rfl, by show (0 : Int) < _; omega, ?_⟩⟩
    refine ⟨L, xs, _, xs[m], rfl, rfl, SqL.of eL, by rw [em]; exact atI_nat (List.getElem?_eq_getElem hm), ?_⟩
    obtain ⟨dp, g1, g2⟩ := da.get (List.getElem?_eq_getElem hm)
    obtain ⟨dp2, g3, g4⟩ := dc.get (List.getElem?_eq_getElem hm)
    rw [g1] at g3
    cases g3
    refine ⟨.ref a, rfl, pick_word w2 (by decide) (by decide) fun wd H3 hwd k3 w3 => ⟨_, rfl, sz (by simp), fun p np => ?_⟩⟩
    have cx3 := cx2.kp k3 w3
    obtain ⟨b1, b2⟩ := (show Db a c H2 _ dp from ⟨g2, g4⟩).k2 (K2.of k3)
    obtain ⟨s4, d4⟩ := newT2 w3.some cx3.cs (DaAll.cons (.str wd) (.cons b1 .nil)) (DaAll.cons (.str wd) (.cons b2 .nil)) np
    refine q _ _ _ ((k2.trans (K2.of k3)).trans (K2.of (Kp.of s4))) (cx3.kp (Kp.of s4) (w3.to s4)) d4 (ls_up (ls_tup1 (n := 2) (ls_up (ls_word ((by decide : ∀ w ∈ (["below", "at", "above", "not below", "not at", "not above"] : List Str), wordB w = true) wd hwd)) (Nat.le_refl _) (by decide)) (pold_ls (p2 dp (List.mem_of_getElem? g1)))) (by decide) (by decide))
end
end K43

set_option Elab.async false
set_option linter.all false
set_option maxRecDepth 100000
set_option maxHeartbeats 8000000
local macro_rules | `(tactic| walk_at "rd") => `(tactic| dsimp only [Evl.tCut, L2.tSeq, L2.tNext, L2.tRet, L2.tRetN, L2.tAsg, L2.gName, L2.tIfS, L2.tDrop, L2.tCons, L2.tNil, L2.tC, L2.tVar, L2.tCB, L2.tAndV, L2.tOrV, L2.tNotV, L2.tB, L2.tTest, L2.tOp, L2.tUn, L2.tNot, L2.tAnd, L2.tOr, L2.tIf, L2.tCall, L2.tTup, L2.tLst, L2.tNotT, L2.tYes, L2.gTup, L2.gCons, L2.gNil, L2.gSub, L2.tBM0, L2.tBM, L2.tWhile, L2.tFor, L2.iRng1, L2.iRng2, L2.tAugS, Tw.iEnumT, L2.tCKw, L2.tAug, L2.ipI, RT.iRevA, L2.tPar, L2.tPar3, L2.tSl, L2.tNoPart, L2.tPart, Tw.tRevT, Tw.tFput])
namespace K43
open PySem PySem.Spec PyProof.Rows L2 Tw
section
variable {P : Program} {w : World} {K : PySem.W.Frag} {mg : Str → Option Value} {base : Heap}
theorem scMade : FnScope ["_law_well_here", "_law_some", "_law_count", "_law_deep_here", "_law_is_full", "_law_kind", "_law_first", "_law_word", "_law_last"] ["_law_well_here", "_law_some", "_law_count", "_law_deep_here", "_law_is_full"] (defScope sMade) := ⟨rfl, rfl, rfl, by decide +kernel, rfl, by decide +kernel, by decide +kernel⟩
theorem made_step {N : Nat} (D : Def K mg "_law_made" sMade ["_law_well_here", "_law_some", "_law_count", "_law_deep_here", "_law_is_full"]) (nb : Nb mg) (c1 : Cal P w K mg base "_law_draw" 1 ["_law_well_here", "_law_many"] spDraw) (cP : Cal P w K mg base "_law_pick" 2 ["_law_well_here", "_law_some"] spPick) (cLf : Cal P w K mg base "_law_leaf" 3 ["_law_well_here", "_law_some", "_law_count"] spLeaf)
    (cMd : Cal P w K mg base "_law_made" (N + 4) ["_law_well_here", "_law_some", "_law_count", "_law_deep_here", "_law_is_full"] (spMade N)) : Cal P w K mg base "_law_made" (N + 5) ["_law_well_here", "_law_some", "_law_count", "_law_deep_here", "_law_is_full"] (spMade (N + 1)) := by
  refine D.ok scMade (fun vs H Q E h => ?_) (fun f cdv A out s H vs Q E hr h => ?_)
  · obtain ⟨a, L, c, ps, dp, fl, rfl, _⟩ := h; rfl
  obtain ⟨a, L, c, ps, dp, fl, rfl, cx, hps, dp0, dpN, q⟩ := h
  refine ⟨_, (pss_cons (ps_if (pt_cmpR op_lt (pv 3) pe_int (nomark _)) (pss_one (ps_ret (pe_cal cLf hr (by omega) (by rfl) (pa_cons (pv 0) (pa_cons (pv 1) (pa_cons (pv 2) pa_nil)))))) pss_nil)
    (pss_cons (ps_set (i := 5) scMade.nd rfl (Or.inl rfl) (pe_cal c1 hr (by omega) (by rfl) (pa_cons (pv 0) (pa_cons pe_int pa_nil))))
    (pss_cons (ps_set (i := 6) scMade.nd rfl (Or.inl rfl) (pe_cal cMd hr (by omega) (by rfl) (pa_cons (pv 0) (pa_cons (pv 1) (pa_cons (pv 2) (pa_cons (pe_op op_sub (pv 3) pe_int) (pa_cons (pv 4) pa_nil)))))))
    (Evl.pss_cut (ps_if (PW.pt (pw_and (pt_cmpR op_lt (pv 5) pe_int (nomark _)) (pw_and1 (pt_not (pt_val (pv 4)))))) (pss_one (ps_ret (pe_tup (pa_cons pe_str (pa_cons (pv 6) pa_nil))))) pss_nil)
    (Evl.pss_cut (ps_if (PW.pt (pw_and (pt_cmpR op_lt (pv 5) pe_int (nomark _)) (pw_and1 (pt_not (pt_val (pv 4)))))) (pss_one (ps_ret (pe_tup (pa_cons (pe_cal cP hr (by omega) (by rfl) (pa_cons (pv 0) (pa_cons (pe_lit _ (d := .tuple ((["all", "some"] : List Str).map PyData.str)) (by rfl)) pa_nil))) (pa_cons (pe_cal cP hr (by omega) (by rfl) (pa_cons (pv 0) (pa_cons (pe_lit _ (d := .tuple ((["x", "y"] : List Str).map PyData.str)) (by rfl)) pa_nil))) (pa_cons (pv 6) pa_nil)))))) pss_nil)
    (pss_cons (ps_set (i := 7) scMade.nd rfl (Or.inl rfl) (pe_cal cP hr (by omega) (by rfl) (pa_cons (pv 0) (pa_cons (pe_lit _ (d := .tuple ((["both", "either"] : List Str).map PyData.str)) (by rfl)) pa_nil))))
    (Evl.pss_cut (ps_set (i := 8) scMade.nd rfl (Or.inl rfl) (pe_cal cMd hr (by omega) (by rfl) (pa_cons (pv 0) (pa_cons (pv 1) (pa_cons (pv 2) (pa_cons (pe_ifExp (pt_val (pv 4)) (pe_op op_sub (pv 3) pe_int) (pe_callB (id := "min") (call_min2 rfl) (by rfl) nb.min (by decide +kernel) (pa_cons (pe_op op_sub (pv 3) pe_int) (pa_cons (pe_op op_add pe_int (pe_cal c1 hr (by omega) (by rfl) (pa_cons (pv 0) (pa_cons pe_int pa_nil)))) pa_nil)))) (pa_cons (pv 4) pa_nil)))))))
    (pss_one (ps_ret (pe_ifExp (pt_cmpR op_eq (pe_cal c1 hr (by omega) (by rfl) (pa_cons (pv 0) (pa_cons pe_int pa_nil))) pe_int (nomark _)) (pe_tup (pa_cons (pv 7) (pa_cons (pv 6) (pa_cons (pv 8) pa_nil)))) (pe_tup (pa_cons (pv 7) (pa_cons (pv 8) (pa_cons (pv 6) pa_nil)))))))))))))), ?_⟩
  walk_at "rd"
  refine ⟨.int (dp : Int), rfl, _, _, rfl, rfl, _, rfl, ite2 (fun z => ?_) (fun z => ?_)⟩
  · refine ⟨.ref a, rfl, .ref L, rfl, .ref c, rfl, a, L, c, ps, rfl, cx, hps, fun v d H1 k1 x1 d1 l1 => q v d H1 k1 x1 d1 (ls_up l1 (wt_one fl dp0) (by omega))⟩
  · have z : 2 ≤ dp := by
      refine Decidable.byContradiction fun y => z (decide_eq_true ?_)
      omega
    refine ⟨.ref a, rfl, a, _, rfl, cx.w, by decide, by decide, fun kd H1 kd0 kd1 k1 w1 => ?_⟩
    have cx1 := cx.kp k1 w1
    have e1 : (dp : Int) - 1 = ((dp - 1 : Nat) : Int) := by omega
    refine ⟨.ref a, rfl, .ref L, rfl, .ref c, rfl, .int (dp : Int), rfl, _, _, rfl, rfl, .bl fl, rfl, a, L, c, ps, dp - 1, fl, by rw [← e1]; rfl, cx1, hps, by omega, by omega, fun v1 d1 H2 k2 cx2 b1 l1 => ?_⟩
    have k2 := (K2.of k1).trans k2
    have stp := wt_step fl z
    refine ⟨fun σ' H' => σ' = [some (.ref a), some (.ref L), some (.ref c), some (.int (dp : Int)), some (.bl fl), some (.int kd), some v1, none, none] ∧ H' = H2, ?_, ?_⟩
    · refine ⟨.int kd, rfl, _, _, rfl, rfl, _, rfl, ite2 (fun y => ⟨.bl fl, rfl, fl, rfl, ?_⟩) (fun y => iteF ⟨rfl, rfl⟩)⟩
      cases fl with
      | true => exact iteF ⟨rfl, rfl⟩
      | false =>
        refine iteT ⟨v1, rfl, sz (by simp), fun p np => ?_⟩
        obtain ⟨s4, d4⟩ := newT2 cx2.w.some cx2.cs (DaAll.cons (.str "not") (.cons b1.1 .nil)) (DaAll.cons (.str "not") (.cons b1.2 .nil)) np
        exact q _ _ _ (k2.trans (K2.of (Kp.of s4))) (cx2.kp (Kp.of s4) (cx2.w.to s4)) d4 (ls_up (ls_tup1 (n := dp + 1) (ls_wordN (n := 4) (by decide)) (ls_up l1 (Nat.le_refl _) (by omega))) (by omega) (by omega))
    rintro σ' H' ⟨rfl, rfl⟩
    refine ⟨fun σ' H2 => σ' = [some (.ref a), some (.ref L), some (.ref c), some (.int (dp : Int)), some (.bl fl), some (.int kd), some v1, none, none] ∧ H2 = H', ?_, ?_⟩
    · refine ⟨.int kd, rfl, _, _, rfl, rfl, _, rfl, ite2 (fun y => ⟨.bl fl, rfl, fl, rfl, ?_⟩) (fun y => iteF ⟨rfl, rfl⟩)⟩
      cases fl with
      | true => exact iteF ⟨rfl, rfl⟩
      | false =>
        refine iteT ⟨.ref a, rfl, pick_word cx2.w (by decide) (by decide) fun wd H3 hwd k3 w3 => ⟨.ref a, rfl, pick_word w3 (by decide) (by decide) fun wl H4 hwl k4 w4 => ⟨v1, rfl, sz (by simp), fun p np => ?_⟩⟩⟩
        have cx4 := (cx2.kp k3 w3).kp k4 w4
        obtain ⟨g1, g2⟩ := (b1.k2 (K2.of k3)).k2 (K2.of k4)
        obtain ⟨s5, d5⟩ := newT2 w4.some cx4.cs (DaAll.cons (.str wd) (.cons (.str wl) (.cons g1 .nil))) (DaAll.cons (.str wd) (.cons (.str wl) (.cons g2 .nil))) np
        exact q _ _ _ ((k2.trans (K2.of (k3.trans k4))).trans (K2.of (Kp.of s5))) (cx4.kp (Kp.of s5) (w4.to s5)) d5 (ls_up (ls_tup2 (n := dp + 1) (ls_wordN (n := 5) ((by decide : ∀ w ∈ (["all", "some"] : List Str), wordNB 5 w = true) wd hwd)) (ls_wordN (n := 2) ((by decide : ∀ w ∈ (["x", "y"] : List Str), wordNB 2 w = true) wl hwl)) (ls_up l1 (Nat.le_refl _) (by omega))) (by omega) (by omega))
    rintro σ' H2 ⟨rfl, rfl⟩
    refine ⟨.ref a, rfl, pick_word cx2.w (by decide) (by decide) fun wd H3 hwd k3 w3 => ?_⟩
    have cx3 := cx2.kp k3 w3
    have hwb : wordNB 7 wd = true := (by decide : ∀ w ∈ (["both", "either"] : List Str), wordNB 7 w = true) wd hwd
    refine ⟨fun σ' H' => ∃ (v2 : V) (d2 : PyData) (m : Nat), σ' = [some (.ref a), some (.ref L), some (.ref c), some (.int (dp : Int)), some (.bl fl), some (.int kd), some v1, some (.str wd), some v2] ∧ K2 a c H3 H' ∧ Ctx a c L H' ps ∧ Db a c H' v2 d2 ∧ 1 ≤ m ∧ (fl = true → m = dp - 1) ∧ (fl = false → m ≤ 2 ∧ m ≤ dp - 1) ∧ (Ls B2 (wt fl m) d2 ∧ Sm (m + 2) 10 d2), ?_, ?_⟩
    · cases fl with
      | true =>
        refine ⟨.ref a, rfl, .ref L, rfl, .ref c, rfl, .bl true, rfl, true, rfl, iteT ⟨.int (dp : Int), rfl, _, _, rfl, rfl, .bl true, rfl, a, L, c, ps, dp - 1, true, by rw [← e1]; rfl, cx3, hps, by omega, by omega, fun v2 d2 H5 k5 cx5 b2 l2 => ?_⟩⟩
        exact ⟨v2, d2, dp - 1, rfl, k5, cx5, b2, by omega, fun _ => rfl, (fun z => nomatch z), l2⟩
      | false =>
        refine ⟨.ref a, rfl, .ref L, rfl, .ref c, rfl, .bl false, rfl, false, rfl, iteF ⟨.int (dp : Int), rfl, _, _, rfl, rfl, .ref a, rfl, a, _, rfl, w3, by decide, by decide, fun r H4 r0 r1 k4 w4 => ⟨_, _, rfl, rfl, _, _, rfl, .bl false, rfl, ?_⟩⟩⟩
        have cx4 := cx3.kp k4 w4
        refine ⟨a, L, c, ps, (if 1 + r < (dp : Int) - 1 then 1 + r else (dp : Int) - 1).toNat, false, ?_, cx4, hps, by split <;> omega, by split <;> omega, fun v2 d2 H5 k5 cx5 b2 l2 => ?_⟩
        · have : (((if 1 + r < (dp : Int) - 1 then 1 + r else (dp : Int) - 1).toNat : Nat) : Int) = if 1 + r < (dp : Int) - 1 then 1 + r else (dp : Int) - 1 := by split <;> omega
          rw [this]
          rfl
        · exact ⟨v2, d2, _, rfl, (K2.of k4).trans k5, cx5, b2, by split <;> omega, (fun z => nomatch z), fun _ => by split <;> omega, l2⟩
    rintro σ' H5 ⟨v2, d2, m, rfl, k5, cx5, b2, m0, m1, m2, l2⟩
    have both := wt_both fl z m0 m1 m2
    have md : m ≤ dp - 1 := by
      cases fl with
      | true => exact Nat.le_of_eq (m1 rfl)
      | false => exact (m2 rfl).2
    refine ⟨.ref a, rfl, a, _, rfl, cx5.w, by decide, by decide, fun r H6 r0 r1 k6 w6 => ⟨rfl, _, rfl, ?_⟩⟩
    have cx6 := cx5.kp k6 w6
    have b2 := b2.k2 (K2.of k6)
    have b1 := ((b1.k2 (K2.of k3)).k2 k5).k2 (K2.of k6)
    have k6 := ((k2.trans (K2.of k3)).trans k5).trans (K2.of k6)
    have l1 : Ls B2 (wt fl (dp - 1)) d1 ∧ Sm (dp + 1) 10 d1 := ls_up l1 (Nat.le_refl _) (by omega)
    have l2 : Ls B2 (wt fl m) d2 ∧ Sm (dp + 1) 10 d2 := ls_up l2 (Nat.le_refl _) (by omega)
    refine ite2 (fun y => ?_) (fun y => ?_)
    · refine ⟨_, rfl, _, rfl, _, rfl, sz (by simp), fun p np => ?_⟩
      obtain ⟨s7, d7⟩ := newT2 w6.some cx6.cs (DaAll.cons (.str wd) (.cons b1.1 (.cons b2.1 .nil))) (DaAll.cons (.str wd) (.cons b1.2 (.cons b2.2 .nil))) np
      exact q _ _ _ (k6.trans (K2.of (Kp.of s7))) (cx6.kp (Kp.of s7) (w6.to s7)) d7 (ls_up (ls_tup2 (n := dp + 1) (ls_wordN hwb) l1 l2) (by omega) (by omega))
    · refine ⟨_, rfl, _, rfl, _, rfl, sz (by simp), fun p np => ?_⟩
      obtain ⟨s7, d7⟩ := newT2 w6.some cx6.cs (DaAll.cons (.str wd) (.cons b2.1 (.cons b1.1 .nil))) (DaAll.cons (.str wd) (.cons b2.2 (.cons b1.2 .nil))) np
      exact q _ _ _ (k6.trans (K2.of (Kp.of s7))) (cx6.kp (Kp.of s7) (w6.to s7)) d7 (ls_up (ls_tup2 (n := dp + 1) (ls_wordN hwb) l2 l1) (by omega) (by omega))
theorem made_all (D : Def K mg "_law_made" sMade ["_law_well_here", "_law_some", "_law_count", "_law_deep_here", "_law_is_full"]) (nb : Nb mg) (c1 : Cal P w K mg base "_law_draw" 1 ["_law_well_here", "_law_many"] spDraw) (cP : Cal P w K mg base "_law_pick" 2 ["_law_well_here", "_law_some"] spPick) (cLf : Cal P w K mg base "_law_leaf" 3 ["_law_well_here", "_law_some", "_law_count"] spLeaf) : ∀ N : Nat, Cal P w K mg base "_law_made" (N + 4) ["_law_well_here", "_law_some", "_law_count", "_law_deep_here", "_law_is_full"] (spMade N)
  | 0 => by
    have no : ∀ vs H Q E, ¬ spMade 0 vs H Q E := fun vs H Q E h => by
      obtain ⟨a, L, c, ps, dp, fl, _, _, _, h1, h2, _⟩ := h
      omega
    obtain ⟨f, fd, F, m, b⟩ := D
    exact ⟨f, fd, ⟨fun vs H Q E h => absurd h (no vs H Q E), fun A out s H g us vs Q E _ _ _ _ h => absurd h (no vs H Q E)⟩, m, F.kp, b, fdAt F⟩
  | N + 1 => made_step D nb c1 cP cLf (made_all D nb c1 cP cLf N)
end
end K43

set_option Elab.async false
set_option linter.all false
set_option maxRecDepth 100000
set_option maxHeartbeats 8000000
local macro_rules | `(tactic| walk_at "rd") => `(tactic| dsimp only [Evl.tCut, L2.tSeq, L2.tNext, L2.tRet, L2.tRetN, L2.tAsg, L2.gName, L2.tIfS, L2.tDrop, L2.tCons, L2.tNil, L2.tC, L2.tVar, L2.tCB, L2.tAndV, L2.tOrV, L2.tNotV, L2.tB, L2.tTest, L2.tOp, L2.tUn, L2.tNot, L2.tAnd, L2.tOr, L2.tIf, L2.tCall, L2.tTup, L2.tLst, L2.tNotT, L2.tYes, L2.gTup, L2.gCons, L2.gNil, L2.gSub, L2.tBM0, L2.tBM, L2.tWhile, L2.tFor, L2.iRng1, L2.iRng2, L2.tAugS, Tw.iEnumT, L2.tCKw, L2.tAug, L2.ipI, RT.iRevA, L2.tPar, L2.tPar3, L2.tSl, L2.tNoPart, L2.tPart, Tw.tRevT, Tw.tFput])
namespace K43
open PySem PySem.Spec PyProof.Rows L2 Tw
theorem nd1_three {ds : List PyData} {j : Nat} {d : PyData} (e : ds[j]? = some d) : nd1 (Tw.cutD ds none (some (j : Int))) + nd d + nd1 (Tw.cutD ds (some ((j + 1 : Nat) : Int)) none) = nd1 ds := by
  have hj : j < ds.length := (List.getElem?_eq_some_iff.mp e).1
  unfold Tw.cutD
  rw [HT.sIx_nat, HT.sIx_none, HT.sIx_nat, HT.sIx_none, List.drop_zero, Nat.sub_zero, Nat.min_eq_left (by omega : j ≤ ds.length), Nat.min_eq_left (by omega : j + 1 ≤ ds.length)]
  have h1 : (ds.drop (j + 1)).take (ds.length - (j + 1)) = ds.drop (j + 1) := List.take_of_length_le (by rw [List.length_drop]; omega)
  rw [h1]
  have h2 := nd1_cut ds j
  have h3 : ds.drop j = d :: ds.drop (j + 1) := by
    rw [List.drop_eq_getElem_cons hj]
    rw [List.getElem?_eq_getElem hj] at e
    cases e
    rfl
  rw [h3, nd1] at h2
  omega
theorem ix_dan {K : PySem.W.Frag} {a : Addr} {H : Hp} {v : V} {ds : List PyData} {Q : VK} {j : Nat} (h : Da a H v (.tuple ds)) (i1 : j < ds.length) (q : ∀ x d, ds[j]? = some d → Da a H x d → Q x H) : rIxT K v (.int (j : Int)) H Q := by
  obtain ⟨p, xs, rfl, np, hp, hx⟩ := da_tup h
  have hm : j < xs.length := by rw [hx.len]; exact i1
  obtain ⟨d, e1, e2⟩ := hx.get (List.getElem?_eq_getElem hm)
  exact ⟨p, xs, _, xs[j], rfl, rfl, SqT.of hp, atI_nat (List.getElem?_eq_getElem hm), q _ d e1 e2⟩
theorem isT_dict {d : PyData} : isTupD d = true → ∃ ds, d = .tuple ds := fun h => by
  cases d <;> first | exact ⟨_, rfl⟩ | cases h
theorem str_ls {i : Int} (h : i.natAbs ≤ B2) (n m : Nat) : i.natAbs.log2 < 1920 ∧ Ls B2 60 (.str (Str.ofString (toString i))) ∧ Sm n m (.str (Str.ofString (toString i))) := by
  have hc : i.natAbs < 10 ^ 45 := Nat.lt_of_le_of_lt h (by decide)
  refine ⟨?_, ⟨?_, ?_⟩, Nat.zero_le _, Nat.zero_le _⟩
  · by_cases c : i.natAbs = 0
    · rw [c]; decide
    · exact Nat.lt_trans ((Nat.log2_lt c).mpr (Nat.lt_of_lt_of_le hc (by decide : 10 ^ 45 ≤ 2 ^ 150))) (by decide)
  · rw [lf, List.all_eq_true]
    intro c hc
    rw [PySem.Str.ofString_eq_toList] at hc
    have hc : c ∈ (toString i).toList.map Char.toNat := by simpa using hc
    obtain ⟨x, _, rfl⟩ := List.mem_map.mp hc
    exact decide_eq_true (Nat.lt_of_lt_of_le (UInt32.toNat_lt x.val) (by decide))
  · have : (Str.ofString (toString i)).length ≤ 46 := by
      rw [PySem.ofString_length]
      exact int_text_length_le10 (k := 45) (by decide) hc
    rw [nd]
    have e : (Str.ofString (toString i)).cps.size = (Str.ofString (toString i)).length := rfl
    omega
def litAll (ds : List PyData) : Bool := ds.all fun d => smB 1 1 d && (lf B2 d && decide (nd d ≤ 64))
def spChg (N : Nat) : Sp := fun vs H Q _ => ∃ (a : Addr) (v : V) (d : PyData) (n m : Nat), vs = [.ref a, v] ∧ We a H ∧ Da a H v d ∧ Sm n m d ∧ n < N ∧ 10 ≤ m ∧ m ≤ 500 ∧ lf B2 d = true ∧
  ∀ v' d' H', Kp a H H' → We a H' → Da a H' v' d' → Sm (n + 1) (m + 1) d' → Ls B2 (2 * nd d + 64) d' → Q v' H'
section
variable {P : Program} {w : World} {K : PySem.W.Frag} {mg : Str → Option Value} {base : Heap}
theorem scChanged : FnScope ["_law_well_here", "_law_thing", "_law_at", "_law_some"] ["_law_well_here", "_law_thing"] (defScope sChanged) := ⟨rfl, rfl, rfl, by decide +kernel, rfl, by decide +kernel, by decide +kernel⟩
theorem chg_step {N : Nat} (D : Def K mg "_law_changed" sChanged ["_law_well_here", "_law_thing"]) (nb : Nb mg) (c1 : Cal P w K mg base "_law_draw" 1 ["_law_well_here", "_law_many"] spDraw) (cP : Cal P w K mg base "_law_pick" 2 ["_law_well_here", "_law_some"] spPick)
    (cC : Cal P w K mg base "_law_changed" (N + 3) ["_law_well_here", "_law_thing"] (spChg N)) : Cal P w K mg base "_law_changed" (N + 4) ["_law_well_here", "_law_thing"] (spChg (N + 1)) := by
  refine D.ok scChanged (fun vs H Q E h => ?_) (fun f cdv A out s H vs Q E hr h => ?_)
  · obtain ⟨a, v, d, n, m, rfl, _⟩ := h; rfl
  obtain ⟨a, v, d, n, m, rfl, hw, hd, hs, hN, m0, m1, hlf, q⟩ := h
  have hls : Ls B2 (nd d) d := ⟨hlf, Nat.le_refl _⟩
  refine ⟨_, (Evl.pss_cut (ps_if (PW.pt (pw_and (pt_val (pe_callB (id := "isinstance") (r := rIsi K) call_isi (by rfl) nb.isi (by decide +kernel) (pa_cons (pv 1) (pa_cons (pe_bltn (v := .ty "tuple") (by rfl) nb.tup (by decide +kernel) rfl) pa_nil)))) (pw_and (pt_cmpR (op_neT0 hr.units) (pv 1) (pe_tup pa_nil) (nomark _)) (pw_and1 (pt_cmpR op_gt (pe_cal c1 hr (by omega) (by rfl) (pa_cons (pv 0) (pa_cons pe_int pa_nil))) pe_int (nomark _)))))) (pss_cons (ps_set (i := 2) scChanged.nd rfl (Or.inl rfl) (pe_cal c1 hr (by omega) (by rfl) (pa_cons (pv 0) (pa_cons (pe_callB (id := "len") (r := rLn K) call_len_seq (by rfl) nb.len PySem.boot_len (pa_cons (pv 1) pa_nil)) pa_nil))))
    (pss_one (ps_ret (pe_op op_catA (pe_op op_catA (pe_slice sl_tupA (pv 1) po_none (po_some (pv 2))) (pe_tup (pa_cons (pe_cal cC hr (by omega) (by rfl) (pa_cons (pv 0) (pa_cons (pe_ix (r := rIxT K) ix_tup (pv 1) (pv 2) (fun _ _ => rfl)) pa_nil))) pa_nil))) (pe_slice sl_tupA (pv 1) (po_some (pe_op op_add (pv 2) pe_int)) po_none))))) pss_nil)
    (pss_cons (ps_if (pt_val (pe_callB (id := "isinstance") (r := rIsi K) call_isi (by rfl) nb.isi (by decide +kernel) (pa_cons (pv 1) (pa_cons (pe_bltn (v := .ty "tuple") (by rfl) nb.tup (by decide +kernel) rfl) pa_nil)))) (pss_one (ps_ret (pe_ix ix_tup (pe_tup (pa_cons (pe_revT (pv 1)) (pa_cons (pe_slice sl_tupA (pv 1) (po_some pe_int) po_none) (pa_cons (pe_op op_catA (pv 1) (pe_slice sl_tupA (pv 1) po_none (po_some pe_int))) (pa_cons (pe_callTy (T := "list") call_list_of (by rfl) nb.lst (by decide +kernel) (pa_cons (pv 1) pa_nil)) (pa_cons (pe_op op_catA (pv 1) (pe_tup (pa_cons pe_int pa_nil))) (pa_cons (pe_tup (pa_cons (pv 1) pa_nil)) pa_nil))))))) (pe_cal c1 hr (by omega) (by rfl) (pa_cons (pv 0) (pa_cons pe_int pa_nil))) (fun _ _ => rfl)))) pss_nil)
    (pss_cons (ps_if (PW.pt (pw_and (pt_val (pe_callB (id := "isinstance") (r := rIsi K) call_isi (by rfl) nb.isi (by decide +kernel) (pa_cons (pv 1) (pa_cons (pe_bltn (v := .ty "int") (by rfl) nb.int (by decide +kernel) rfl) pa_nil)))) (pw_and1 (pt_not (pt_val (pe_callB (id := "isinstance") (r := rIsi K) call_isi (by rfl) nb.isi (by decide +kernel) (pa_cons (pv 1) (pa_cons (pe_bltn (v := .ty "bool") (by rfl) nb.bool (by decide +kernel) rfl) pa_nil)))))))) (pss_one (ps_ret (pe_ix ix_tup (pe_tup (pa_cons pe_int (pa_cons pe_bl (pa_cons (pe_callTy (T := "str") call_str_int (by rfl) nb.str (by decide +kernel) (pa_cons (pv 1) pa_nil)) (pa_cons (pe_tup (pa_cons (pv 1) pa_nil)) (pa_cons (pe_op op_sub pe_int (pv 1)) (pa_cons pe_non pa_nil))))))) (pe_cal c1 hr (by omega) (by rfl) (pa_cons (pv 0) (pa_cons pe_int pa_nil))) (fun _ _ => rfl)))) pss_nil)
    (pss_cons (ps_set (i := 3) scChanged.nd rfl (Or.inl rfl) (pe_lit _ (d := .tuple [.str "x", .str "y", .str "z", .str "not", .str "some", .str "above", .str "not not at", .str "", .none, .int 1, .str "true", .str "both", .str "X", .tuple [.str "x"], .str "not at"]) (by rfl)))
    (pss_one (ps_ret (pe_cal cP hr (by omega) (by rfl) (pa_cons (pv 0) (pa_cons (pv 3) pa_nil))))))))), ?_⟩
  walk_at "rd"
  refine ⟨fun σ' H' => σ' = [some (.ref a), some v, none, none] ∧ Kp a H H' ∧ We a H', ⟨v, rfl, isi hd (isi_tup d) ⟨isTupD d, rfl, ?_⟩⟩, ?_⟩
  · cases ht : isTupD d with
    | false => exact iteF (iteF ⟨rfl, Kp.refl a H, hw⟩)
    | true =>
      obtain ⟨ds, rfl⟩ := isT_dict ht
      obtain ⟨p, xs, rfl, np, hp, hx⟩ := da_tup hd
      refine iteT ⟨.ref p, rfl, sz (by decide), fun t nt => ?_⟩
      have s1 := same_new (o := .tup []) nt
      refine ⟨p, t, xs, [], rfl, rfl, SqT.of (s1 _ _ hp), SqT.of upd_same, rfl, _, rfl, ?_⟩
      rw [if_pos rfl, empty_iff hx]
      cases hds : ds.isEmpty with
      | true => exact iteF (iteF ⟨rfl, Kp.of s1, hw.to s1⟩)
      | false =>
        refine iteT ⟨.ref a, rfl, a, _, rfl, hw.to s1, by decide, by decide, fun r H1 r0 r1 k1 w1 => ?_⟩
        have k1 := (Kp.of s1).trans k1
        refine ⟨r, 0, rfl, rfl, _, rfl, ?_⟩
        refine ite2 (fun c => ?_) (fun c => ⟨rfl, k1, w1⟩)
        have l0 : 0 < ds.length := by cases ds with
          | nil => cases hds
          | cons _ _ => simp
        have lm := hs.len
        have lx := hx.len
        refine ⟨.ref a, rfl, .ref p, rfl, p, xs, rfl, .inr (SqT.of (k1 _ _ np hp)), a, _, rfl, w1, by omega, by omega, fun i H2 i0 i1 k2 w2 => ?_⟩
        obtain ⟨j, rfl⟩ := Int.eq_ofNat_of_zero_le i0
        have hj : j < ds.length := by omega
        have k2 := k1.trans k2
        refine ⟨.ref p, rfl, .int j, rfl, (j : Int), rfl, ?_⟩
        refine sl_da w2.some (hd.kp k2) fun v1 H3 s3 d1 => ?_
        have k3 := k2.trans (Kp.of s3)
        refine ⟨.ref a, rfl, .ref p, rfl, .int j, rfl, ?_⟩
        refine ix_dan (hd.kp k3) hj fun x dx hjx dxx => ?_
        have hm := List.mem_of_getElem? hjx
        refine ⟨a, x, dx, n - 1, m, rfl, w2.to s3, dxx, hs.mem hm, by have := hs.dep1; omega, m0, m1, (hls.mem hm).1, fun v2 d2 H4 k4 w4 e2 t2 l2 => ?_⟩
        have k4' := k3.trans k4
        refine ⟨sz (by simp), fun pH5 nH5 => ?_⟩
        obtain ⟨s5, d3⟩ := newT w4.some (.cons e2 .nil) nH5
        generalize upd _ pH5 _ = H5 at s5 d3 ⊢
        have k5 := k4'.trans (Kp.of s5)
        have lu := cut_upto ds j
        refine cat_da (w4.to s5).some ((d1.kp k4).same s5) d3 (by simp; omega) fun v4 H6 s6 d4 => ?_
        have k6 := k5.trans (Kp.of s6)
        refine ⟨.ref p, rfl, .int j, rfl, j, 1, rfl, rfl, (j : Int) + 1, rfl, ?_⟩
        have ej : ((j : Int) + 1) = ((j + 1 : Nat) : Int) := by omega
        refine sl_da ((w4.to s5).to s6).some (hd.kp k6) fun v5 H7 s7 d5 => ?_
        have lf := cut_from ds (j + 1)
        rw [ej] at d5
        have l7 := nd1_three hjx
        obtain ⟨c5, hc5⟩ : ∃ c, c = Tw.cutD ds (some ((j + 1 : Nat) : Int)) none := ⟨_, rfl⟩
        rw [← hc5] at d5 lf l7
        refine cat_da (((w4.to s5).to s6).to s7).some (d4.same s7) d5 (by simp; omega) fun v6 H8 s8 d6 => ?_
        have n1 := hs.dep1
        refine q v6 _ H8 ((k6.trans (Kp.of s7)).trans (Kp.of s8)) ((((w4.to s5).to s6).to s7).to s8) d6 (?_) ?_
        · refine sm_sub hs (by simp; omega) (by omega) (by omega) fun e he => ?_
          rcases List.mem_append.mp he with he | he
          · rcases List.mem_append.mp he with he | he
            · exact .inl (cut_mem he)
            · rw [List.mem_singleton.mp he]; exact .inr (t2.up (by omega) (Nat.le_refl _))
          · rw [hc5] at he; exact .inl (cut_mem he)
        · have l8 : nd (.tuple ds) = nd1 ds + 1 := by rw [nd]
          have l9 := l2.2
          refine ls_sub hls (Nat.le_refl _) (by rw [nd1_app, nd1_app, nd1, nd1]; omega) fun e he => ?_
          rcases List.mem_append.mp he with he | he
          · rcases List.mem_append.mp he with he | he
            · exact .inl (cut_mem he)
            · rw [List.mem_singleton.mp he]; exact .inr l2.1
          · rw [hc5] at he; exact .inl (cut_mem he)
  · rintro σ' H2 ⟨rfl, k2, w2⟩
    have hd2 := hd.kp k2
    have odd : ∀ H3, Kp a H H3 → We a H3 → ∃ a', H3 a' ≠ none ∧ ∀ v3 H4, Same H3 H4 → Da a' H4 v3 (.tuple [.str "x", .str "y", .str "z", .str "not", .str "some", .str "above", .str "not not at", .str "", .none, .int 1, .str "true", .str "both", .str "X", .tuple [.str "x"], .str "not at"]) → ∃ u, some (some (V.ref a)) = some (some u) ∧ ∃ y, some (some v3) = some (some y) ∧ spPick ([u, y] ++ []) H4 Q E0 := fun H3 k3 w3 => by
      refine ⟨a, w3.some, fun v3 H4 s4 dv => ⟨.ref a, rfl, v3, rfl, ?_⟩⟩
      obtain ⟨p, xs, rfl, np, hp, hx⟩ := da_tup dv
      have lx := hx.len
      simp only [List.length_cons, List.length_nil] at lx
      refine ⟨a, p, xs, rfl, w3.to s4, np, hp, fun z => by rw [z] at lx; simp at lx, by omega, fun i x H5 hi k5 w5 => ?_⟩
      obtain ⟨d', e1, e2⟩ := hx.get hi
      have al := List.all_eq_true.mp (show litAll [.str "x", .str "y", .str "z", .str "not", .str "some", .str "above", .str "not not at", .str "", .none, .int 1, .str "true", .str "both", .str "X", .tuple [.str "x"], .str "not at"] = true by decide +kernel) d' (List.mem_of_getElem? e1)
      rw [Bool.and_eq_true, Bool.and_eq_true] at al
      have n1 := of_decide_eq_true al.2.2
      exact q x d' H5 ((k3.trans (Kp.of s4)).trans k5) w5 (e2.kp k5) ((sm_of al.1).up (by omega) (by omega)) ⟨al.2.1, by omega⟩
    refine ⟨v, rfl, isi hd2 (isi_tup d) ⟨isTupD d, rfl, ?_⟩⟩
    cases ht : isTupD d with
    | true =>
      obtain ⟨ds, rfl⟩ := isT_dict ht
      have lm := hs.len
      have n1 := hs.dep1
      obtain ⟨p, xs, rfl, np, hp, hx⟩ := da_tup hd2
      refine iteT ⟨.ref p, rfl, p, xs, rfl, SqT.of hp, fun q0 n0 => ?_⟩
      obtain ⟨s3, d0⟩ := newT w2.some hx.rev n0
      generalize upd _ q0 _ = H3 at s3 d0 ⊢
      have w3 := w2.to s3
      have k3 := k2.trans (Kp.of s3)
      refine ⟨.ref p, rfl, 1, rfl, sl_da w3.some (hd.kp k3) fun v1 H4 s4 d1 => ?_⟩
      have w4 := w3.to s4
      have k4 := k3.trans (Kp.of s4)
      refine ⟨.ref p, rfl, .ref p, rfl, 1, rfl, sl_da w4.some (hd.kp k4) fun v2a H5 s5 d2a => ?_⟩
      have w5 := w4.to s5
      have k5 := k4.trans (Kp.of s5)
      have l5 : (Tw.cutD ds none (some 1)).length ≤ 1 := by
        have := cut_upto ds 1
        rw [show ((1 : Nat) : Int) = 1 from rfl] at this
        omega
      refine cat_da w5.some (hd.kp k5) d2a (by omega) fun v2 H6 s6 d2 => ?_
      have w6 := w5.to s6
      have k6 := k5.trans (Kp.of s6)
      obtain ⟨r6, ys, er, nr, hr6, hy⟩ := da_tup (hd.kp k6)
      cases er
      refine ⟨.ref p, rfl, p, ys, rfl, .inr (SqT.of hr6), fun q3 n3 => ?_⟩
      obtain ⟨s7, d3⟩ := newL w6.some hy n3
      generalize upd _ q3 _ = H7 at s7 d3 ⊢
      have w7 := w6.to s7
      have k7 := k6.trans (Kp.of s7)
      refine ⟨.ref p, rfl, sz (by simp), fun q4 n4 => ?_⟩
      obtain ⟨s8, d4a⟩ := newT w7.some (DaAll.cons (.int 0) .nil) n4
      generalize upd _ q4 _ = H8 at s8 d4a ⊢
      have w8 := w7.to s8
      have k8 := k7.trans (Kp.of s8)
      refine cat_da w8.some (hd.kp k8) d4a (by simp; omega) fun v4 H9 s9 d4 => ?_
      have w9 := w8.to s9
      have k9 := k8.trans (Kp.of s9)
      refine ⟨.ref p, rfl, sz (by simp), fun q5 n5 => ?_⟩
      obtain ⟨s10, d5⟩ := newT w9.some (DaAll.cons (hd.kp k9) .nil) n5
      generalize upd _ q5 _ = H10 at s10 d5 ⊢
      have w10 := w9.to s10
      have k10 := k9.trans (Kp.of s10)
      have z8 := s9.trans s10
      have z7 := s8.trans z8
      have z6 := s7.trans z7
      have z5 := s6.trans z6
      have z4 := s5.trans z5
      have z3 := s4.trans z4
      refine ⟨sz (by simp), fun pH14 nH14 => ?_⟩
      obtain ⟨s14, dd⟩ := newT w10.some (.cons (d0.same z3) (.cons (d1.same z4) (.cons (d2.same z6) (.cons (d3.same z7) (.cons (d4.same s10) (.cons d5 .nil)))))) nH14
      generalize upd _ pH14 _ = H14 at s14 dd ⊢
      have w14 := w10.to s14
      refine ⟨.ref a, rfl, a, _, rfl, w14, by decide, by decide, fun r H15 r0 r1 k15 w15 => ?_⟩
      refine ix_da (dd.kp k15) r0 (by simp; omega) fun x dx hm dxx => ?_
      refine (fun z => q x dx H15 ((k10.trans (Kp.of s14)).trans k15) w15 dxx z.1 z.2 : (Sm (n + 1) (m + 1) dx ∧ Ls B2 (2 * nd (.tuple ds) + 64) dx) → _) ?_
      have cut2 := cut_le ds (some 1) none
      have n1 := hls.nd
      have n0 : nd (.tuple ds) = nd1 ds + 1 := by rw [nd]
      have n4 := nd1_cutD ds (some 1) none
      have n5 := nd1_cutD ds none (some 1)
      simp only [List.mem_cons, List.not_mem_nil, or_false] at hm
      rcases hm with rfl | rfl | rfl | rfl | rfl | rfl
      · exact ⟨sm_sub hs (by simp; omega) (by omega) (by omega) fun e he => .inl (List.mem_reverse.mp he), ls_sub hls (Nat.le_refl _) (by rw [nd1_rev]; omega) fun e he => .inl (List.mem_reverse.mp he)⟩
      · exact ⟨sm_sub hs (by omega) (by omega) (by omega) fun e he => .inl (cut_mem he), ls_sub hls (Nat.le_refl _) (by omega) fun e he => .inl (cut_mem he)⟩
      · exact ⟨sm_sub hs (by simp; omega) (by omega) (by omega) fun e he => (List.mem_append.mp he).elim .inl fun z => .inl (cut_mem z), ls_sub hls (Nat.le_refl _) (by rw [nd1_app]; omega) fun e he => (List.mem_append.mp he).elim .inl fun z => .inl (cut_mem z)⟩
      · exact ⟨sm_subL hs (by omega) (by omega) (by omega) fun e he => .inl he, ls_subL hls (Nat.le_refl _) (by omega) fun e he => .inl he⟩
      · have e1 : nd (.int 0) = 1 := by rw [nd] <;> nofun
        exact ⟨sm_sub hs (by simp; omega) (by omega) (by omega) fun e he => (List.mem_append.mp he).elim .inl fun z => .inr (by rw [List.mem_singleton.mp z]; exact sm_int _ _ _), ls_sub hls (Nat.le_refl _) (by rw [nd1_app, nd1, nd1, e1]; omega) fun e he => (List.mem_append.mp he).elim .inl fun z => .inr (by rw [List.mem_singleton.mp z]; exact (ls_int (b := B2) (w := 1) (by decide) (by decide)).1)⟩
      · exact ⟨sm_tup (by rw [List.length_singleton]; omega) fun e he => by rw [List.mem_singleton.mp he]; exact hs.up (Nat.le_refl _) (by omega), by rw [lf]; exact lf1_of fun e he => by rw [List.mem_singleton.mp he]; exact hlf, by rw [nd, nd1, nd1]; omega⟩
    | false =>
      refine iteF ⟨v, rfl, isi hd2 (isi_int d) ⟨isIntD d, rfl, ?_⟩⟩
      cases hi : isIntD d with
      | false => exact iteF (iteF (odd H2 k2 w2))
      | true =>
        refine iteT ⟨v, rfl, isi hd2 (isi_bool d) ⟨isBoolD d, rfl, ?_⟩⟩
        cases hb : isBoolD d with
        | true => exact iteF (odd H2 k2 w2)
        | false =>
          obtain ⟨i, rfl, rfl⟩ := int_of hd2 (by unfold wholeB; rw [hi, hb]; rfl)
          have hi2 : i.natAbs ≤ B2 := by rw [lf] at hlf; exact of_decide_eq_true hlf
          obtain ⟨g1, g2, g3⟩ := str_ls hi2 (n + 1) (m + 1)
          have ndi : nd (.int i) = 1 := by rw [nd] <;> nofun
          refine iteT ⟨.int i, rfl, i, rfl, g1, .int i, rfl, sz (by simp), fun q3 n3 => ?_⟩
          obtain ⟨s3, d3⟩ := newT w2.some (DaAll.cons (.int i) .nil) n3
          generalize upd _ q3 _ = H3 at s3 d3 ⊢
          have w3 := w2.to s3
          refine ⟨.int i, rfl, _, _, rfl, rfl, sz (by simp), fun q4 n4 => ?_⟩
          obtain ⟨s4, dd⟩ := newT w3.some (.cons (.int 0) (.cons (.bl true) (.cons (.str _) (.cons d3 (.cons (.int (0 - i)) (.cons .non .nil)))))) n4
          generalize upd _ q4 _ = H4 at s4 dd ⊢
          have w4 := w3.to s4
          refine ⟨.ref a, rfl, a, _, rfl, w4, by decide, by decide, fun r H5 r0 r1 k5 w5 => ?_⟩
          refine ix_da (dd.kp k5) r0 (by simp; omega) fun x dx hm dxx => ?_
          refine (fun z => q x dx H5 (((k2.trans (Kp.of s3)).trans (Kp.of s4)).trans k5) w5 dxx z.1 z.2 : (Sm (n + 1) (m + 1) dx ∧ Ls B2 (2 * nd (.int i) + 64) dx) → _) ?_
          simp only [List.mem_cons, List.not_mem_nil, or_false] at hm
          rcases hm with rfl | rfl | rfl | rfl | rfl | rfl
          · exact ⟨sm_int _ _ _, ls_int (by decide) (by omega)⟩
          · exact ⟨sm_bl _ _ _, ls_bl (by omega)⟩
          · exact ⟨g3, g2.up (Nat.le_refl _) (by omega)⟩
          · exact ⟨sm_tup (by rw [List.length_singleton]; omega) fun e he => by rw [List.mem_singleton.mp he]; exact sm_int _ _ _, by rw [lf]; exact lf1_of fun e he => by rw [List.mem_singleton.mp he]; exact hlf, by rw [nd, nd1, nd1]; omega⟩
          · exact ⟨sm_int _ _ _, ls_int (by omega) (by omega)⟩
          · exact ⟨⟨Nat.zero_le _, Nat.zero_le _⟩, rfl, by show 1 ≤ _; omega⟩
theorem chg_all (D : Def K mg "_law_changed" sChanged ["_law_well_here", "_law_thing"]) (nb : Nb mg) (c1 : Cal P w K mg base "_law_draw" 1 ["_law_well_here", "_law_many"] spDraw) (cP : Cal P w K mg base "_law_pick" 2 ["_law_well_here", "_law_some"] spPick) : ∀ N : Nat, Cal P w K mg base "_law_changed" (N + 3) ["_law_well_here", "_law_thing"] (spChg N)
  | 0 => by
    have no : ∀ vs H Q E, ¬ spChg 0 vs H Q E := fun vs H Q E h => by
      obtain ⟨a, v, d, n, m, _, _, _, _, h1, _⟩ := h
      omega
    obtain ⟨f, fd, F, m, b⟩ := D
    exact ⟨f, fd, ⟨fun vs H Q E h => absurd h (no vs H Q E), fun A out s H g us vs Q E _ _ _ _ h => absurd h (no vs H Q E)⟩, m, F.kp, b, fdAt F⟩
  | N + 1 => chg_step D nb c1 cP (chg_all D nb c1 cP N)
end
end K43

set_option Elab.async false
set_option linter.all false
set_option maxRecDepth 100000
set_option maxHeartbeats 8000000
local macro_rules | `(tactic| walk_at "rd") => `(tactic| dsimp only [Evl.tCut, L2.tSeq, L2.tNext, L2.tRet, L2.tRetN, L2.tAsg, L2.gName, L2.tIfS, L2.tDrop, L2.tCons, L2.tNil, L2.tC, L2.tVar, L2.tCB, L2.tAndV, L2.tOrV, L2.tNotV, L2.tB, L2.tTest, L2.tOp, L2.tUn, L2.tNot, L2.tAnd, L2.tOr, L2.tIf, L2.tCall, L2.tTup, L2.tLst, L2.tNotT, L2.tYes, L2.gTup, L2.gCons, L2.gNil, L2.gSub, L2.tBM0, L2.tBM, L2.tWhile, L2.tFor, L2.iRng1, L2.iRng2, L2.tAugS, Tw.iEnumT, L2.tCKw, L2.tAug, L2.ipI, RT.iRevA, L2.tPar, L2.tPar3, L2.tSl, L2.tNoPart, L2.tPart, Tw.tRevT, Tw.tFput])
namespace K43
open PySem PySem.Spec PyProof.Rows L2 Tw
theorem _root_.PySem.Reads.keep_le {h : Heap} {p : Addr} {d : PyData} {as : List Addr} {n : Nat} {bs : List Addr} (r : Reads h (.ref p) d as) (hb : ReadAtMost h n bs) (hn : n ≤ d.depth) : ReadAtMost h d.depth (p :: bs) := ReadAtMost.cons r hn hb
section
variable {X : Cx} {pins : List (Addr × Obj)} {σ : L2.St} {H : Hp} {s : Shared} {a : Addr}
theorem dct_at {p : Addr} (I : L2.Inv X pins σ H s) (h : H p = some (.dK [])) : ∃ (ob : Obj) (es : Array DictEntry) (ep : Nat), s.heap.get? p = some ob ∧ ob.cls = .type "dict" ∧ ob.data = .dict es ep ∧ es.toList = [] ∧ (p == sysModules) = false := by
  obtain ⟨_, hsm, vs, kv, ob, es, ep, e1, e2, e3, _, e5, _⟩ := dk_of I.hok h
  cases kv
  refine ⟨ob, es, ep, e1, e2.1, e3, ?_, hsm⟩
  cases hz : es.toList with
  | nil => rfl
  | cons x r => rw [hz] at e5; cases e5
mutual
theorem rk_da (I : L2.Inv X pins σ H s) : ∀ {v : V} {d : PyData} {u : Value}, Da a H v d → L2.RelV v u → PyData.showable d = true → d.shown.length ≤ sizeLine →
    (∃ as, Reads s.heap u d as) ∧ ∃ bs, ReadAtMost s.heap d.depth bs ∧ ReprK X.prog X.w bs s.heap d.depth u d.shown
  | _, _, _, .non, r, _, _ => by cases r; exact ⟨⟨_, Reads.none⟩, [], (fun _ z => nomatch z), .of_is ReprIs.none _ _ _⟩
  | _, _, _, .bl b, r, _, _ => by cases r; exact ⟨⟨_, Reads.bool b⟩, [], (fun _ z => nomatch z), .of_is (ReprIs.bool b) _ _ _⟩
  | _, _, _, .int i, r, g, _ => by
    obtain ⟨t, rfl⟩ := r
    rw [PyData.showable] at g
    exact ⟨⟨_, Reads.int i t⟩, [], (fun _ z => nomatch z), .of_is (ReprIs.int t (of_decide_eq_true g)) _ _ _⟩
  | _, _, _, .str x, r, _, hz => by
    obtain ⟨t, rfl⟩ := r
    exact ⟨⟨_, Reads.str x t⟩, [], (fun _ z => nomatch z), .of_is (ReprIs.str x t hz) _ _ _⟩
  | _, _, _, .lst (p := p) (ds := ds) n h t, r, g, hz => by
    cases r
    rw [PyData.showable] at g
    rw [PyData.shown] at hz
    obtain ⟨its, rv, ⟨o, m, ho, hc, _, hd⟩, _⟩ := I.list (SqL.of h)
    obtain ⟨⟨as, ra⟩, bs, hb, hk⟩ := rk_das I t rv g fun y hy => Nat.le_trans (listText_mem_le hy) hz
    have rd := Reads.list ho hc hd ra
    have hn := not_mem_of_deeper rd (by rw [PyData.depth]; omega) hb
    refine ⟨⟨_, rd⟩, p :: bs, rd.keep_le hb (by rw [PyData.depth]; omega), ?_⟩
    rw [PyData.depth, PyData.shown]
    cases its with
    | nil =>
      cases ra
      rw [PyData.shownAll, listText_nil]
      exact ReprK.listEmpty ho hc hd
    | cons x l => exact ReprK.list ho hc hd hn (by simpa using hk.length_eq) fun i y e => hk.item i y (by simpa using e)
  | _, _, _, .tup (p := p) (ds := ds) n h t, r, g, hz => by
    cases r
    rw [PyData.showable] at g
    rw [PyData.shown] at hz
    obtain ⟨its, rv, ⟨o, ho, hc, m, hd⟩, _⟩ := I.tuple (SqT.of h)
    obtain ⟨⟨as, ra⟩, bs, hb, hk⟩ := rk_das I t rv g fun y hy => Nat.le_trans (tupleText_mem_le hy) hz
    have rd := Reads.tuple ho hc hd ra
    have hn := not_mem_of_deeper rd (by rw [PyData.depth]; omega) hb
    refine ⟨⟨_, rd⟩, p :: bs, rd.keep_le hb (by rw [PyData.depth]; omega), ?_⟩
    rw [PyData.depth, PyData.shown]
    exact ReprK.tuple ho hc hd hn hk
  | _, _, _, .dct (p := p) n h, r, _, _ => by
    cases r
    obtain ⟨ob, es, ep, e1, e2, e3, e6, hsm⟩ := dct_at I h
    have rd : Reads s.heap (.ref p) (.dict []) _ := Reads.dict (kvs := []) (as := []) (bs := []) e1 e2 e3 (by rw [e6]; exact .nil) (by rw [e6]; exact .nil)
    refine ⟨⟨_, rd⟩, [p], rd.keep_le (n := 0) (bs := []) (fun _ z => nomatch z) (Nat.zero_le _), ?_⟩
    exact ReprK.dict e1 e2 e3 hsm (fun z => nomatch z) (by rw [e6]; exact .nil)
theorem rk_das (I : L2.Inv X pins σ H s) : ∀ {vs : List V} {ds : List PyData} {us : List Value}, DaAll a H vs ds → Vals vs us → PyData.showableAll ds = true → (∀ t ∈ PyData.shownAll ds, t.length ≤ sizeLine) →
    (∃ as, ReadsAll s.heap us ds as) ∧ ∃ bs, ReadAtMost s.heap (PyData.depthAll ds) bs ∧ ReprAllK X.prog X.w bs s.heap (PyData.depthAll ds) us (PyData.shownAll ds)
  | _, _, _, .nil, r, _, _ => by cases r; exact ⟨⟨_, .nil⟩, [], (fun _ z => nomatch z), .nil⟩
  | _, _, _, .cons h t, r, g, hz => by
    cases r with
    | cons r1 r2 =>
      rw [PyData.showableAll, Bool.and_eq_true] at g
      rw [PyData.shownAll] at hz
      obtain ⟨⟨as, q1⟩, b1, m1, k1⟩ := rk_da I h r1 g.1 (hz _ (by simp))
      obtain ⟨⟨cs, q2⟩, b2, m2, k2⟩ := rk_das I t r2 g.2 fun y hy => hz y (by simp [hy])
      rw [PyData.depthAll, PyData.shownAll]
      exact ⟨⟨_, ReadsAll.cons q1 q2⟩, b1 ++ b2, (m1.mono (Nat.le_max_left _ _)).append (m2.mono (Nat.le_max_right _ _)),
        .cons ((k1.more fun b z => List.mem_append_left _ z).level_le (Nat.le_max_left _ _)) (k2.more_le (fun b z => List.mem_append_right _ z) (Nat.le_max_right _ _))⟩
end
theorem repr_da (I : L2.Inv X pins σ H s) {v : V} {d : PyData} {u : Value} {Q : Value → Shared → Prop} {A : Around} {E : Value → Shared → Prop} (h : Da a H v d) (r : L2.RelV v u) (g : PyData.showable d = true) (hz : d.shown.length ≤ sizeLine) (hq : A.guards = some []) (hu : A.units + (d.depth + 1) < cLine)
    (q : ∀ h' t k, (∀ b o, s.heap.get? b = some o → h'.get? b = some o) → Q (.str d.shown t) { s with heap := h', toks := k }) : wpAny (model X.prog X.w) A (call (.builtin "repr") [u]) Q E s := by
  have hu2 : A.in1.units + d.depth < cLine := by show A.units + 1 + d.depth < cLine; omega
  cases h with
  | non => cases r; exact PySem.P.repr_of_none (q s.heap _ _ fun _ _ e => e)
  | bl b => cases r; exact PySem.P.repr_of_bool (by cases b <;> exact q s.heap _ _ fun _ _ e => e)
  | int i => obtain ⟨t, rfl⟩ := r; exact PySem.P.repr_of_int (by rw [PyData.showable] at g; exact of_decide_eq_true g) (q s.heap _ _ fun _ _ e => e)
  | str x => obtain ⟨t, rfl⟩ := r; exact PySem.P.repr_of_str (q s.heap _ _ fun _ _ e => e) hz
  | @lst p xs ds n h t =>
    cases r
    rw [PyData.showable] at g
    rw [PyData.shown] at hz q
    rw [PyData.depth] at hu2
    obtain ⟨its, rv, ⟨o, m, ho, hc, _, hd⟩, _⟩ := I.list (SqL.of h)
    obtain ⟨⟨as, ra⟩, bs, hb, hk⟩ := rk_das I t rv g fun y hy => Nat.le_trans (listText_mem_le hy) hz
    have hn := not_mem_of_deeper (Reads.list ho hc hd ra) (by rw [PyData.depth]; omega) hb
    have ty : s.TypeIs (.ref p) "list" := ⟨o, ho, hc⟩
    refine call_repr_slot (by omega) ty F.slot_list_repr.toG ?_
    cases its with
    | nil =>
      cases ra
      rw [PyData.shownAll, listText_nil] at q
      exact call_list_repr_empty ty ho hd ⟨_, _, rfl, q s.heap _ _ fun _ _ e => e⟩
    | cons x l => exact call_list_reprK ho hc hd hn (by simpa using hk.length_eq) (fun i y e => hk.item i y (by simpa using e)) hq (fun b _ => Clear.nil b) hu2 (fun _ _ e => e) (fun h' w k z => ⟨_, _, rfl, q h' w k z⟩) hz
  | @tup p xs ds n h t =>
    cases r
    rw [PyData.showable] at g
    rw [PyData.shown] at hz q
    rw [PyData.depth] at hu2
    obtain ⟨its, rv, ⟨o, ho, hc, m, hd⟩, _⟩ := I.tuple (SqT.of h)
    obtain ⟨⟨as, ra⟩, bs, hb, hk⟩ := rk_das I t rv g fun y hy => Nat.le_trans (tupleText_mem_le hy) hz
    have hn := not_mem_of_deeper (Reads.tuple ho hc hd ra) (by rw [PyData.depth]; omega) hb
    exact call_repr_slot (by omega) ⟨o, ho, hc⟩ F.slot_tuple_repr (call_tuple_reprK ho hc hd hn hk hq (fun b _ => Clear.nil b) hu2 (fun _ _ e => e) (fun h' w k z => ⟨_, _, rfl, q h' w k z⟩) hz)
  | @dct p n h =>
    cases r
    obtain ⟨ob, es, ep, e1, e2, e3, e6, hsm⟩ := dct_at I h
    exact call_repr_slot (by omega) ⟨ob, e1, e2⟩ F.slot_dict_repr (call_dict_reprK (as := []) (d := 0) (ps := []) e1 e2 e3 hsm (fun z => nomatch z) (by rw [e6]; exact .nil) hq (fun b _ => Clear.nil b) hu2 (fun _ _ e => e) (fun h' w k z => ⟨_, _, rfl, q h' w k z⟩) hz)
end
/-- repr of any datum -/
def rShowD : List V → Hp → VK → Prop := fun xs H Q => ∃ (a : Addr) (v : V) (d : PyData) (w : Nat), xs = [v] ∧ Da a H v d ∧ Ls B2 w d ∧ w ≤ 100000 ∧ dep d ≤ 40 ∧ Q (.str d.shown) H
theorem call_showD {X : Cx} (hq : Qt X.A) (hu : X.A.units + 70 < cLine) : CallR X (.builtin "repr") rShowD := by
  intro pins s σ H xs us Q I r h
  obtain ⟨a, v, d, w, rfl, hd, hl, hw, hdep, q⟩ := h
  obtain ⟨u, rfl, rx⟩ := vals1 r
  have hdp := depth_dep hl.1
  exact repr_da I hd rx (lf_show hl.1).1 (shown_fit hl hw) hq (by omega) fun h' t k keep => ⟨.str d.shown, H, I.kept keep, ⟨_, rfl⟩, q⟩
/-! what is told of a thing -/
theorem frees_self (s : Say) : (["x", "y"] : List Str).filter (fun l => decide (l ∈ s.frees)) = s.frees := by
  rw [List.filter_cons, List.filter_cons, List.filter_nil, frees_x, frees_y]
  unfold Say.frees
  cases s.free true <;> cases s.free false <;> rfl
theorem polys_ls : ∀ {s : Say} {b : Nat}, lf b s.d = true → lf1 b s.polys = true
  | .tt, b, _ => by show lf1 b [] = true; rw [lf1]
  | .ff, b, _ => by show lf1 b [] = true; rw [lf1]
  | .nn s, b, h => by
    rw [Say.d, lf, lf1, lf1, Bool.and_eq_true, Bool.and_eq_true] at h
    exact polys_ls (s := s) h.2.1
  | .bo c s t, b, h => by
    rw [Say.d, lf, lf1, lf1, lf1, Bool.and_eq_true, Bool.and_eq_true, Bool.and_eq_true] at h
    refine lf1_of fun p m => ?_
    rcases un_mem m with m | m
    · exact lf1_mem (polys_ls (s := s) h.2.1) m
    · exact lf1_mem (polys_ls (s := t) h.2.2.1) m
  | .qu al x s, b, h => by
    rw [Say.d, lf, lf1, lf1, lf1, Bool.and_eq_true, Bool.and_eq_true, Bool.and_eq_true] at h
    exact polys_ls (s := s) h.2.2.1
  | .re w p, b, h => by
    rw [Say.d, lf, lf1, lf1, Bool.and_eq_true, Bool.and_eq_true] at h
    show lf1 b [p] = true
    rw [lf1, lf1, h.2.1]; rfl
theorem nd1_filter (f : PyData → Bool) : ∀ ds : List PyData, nd1 (ds.filter f) ≤ nd1 ds
  | [] => Nat.le_refl _
  | d :: ds => by
    have := nd1_filter f ds
    rw [List.filter_cons]
    split <;> simp only [nd1] <;> omega
theorem polys_nd1 : ∀ s : Say, nd1 s.polys ≤ nd s.d
  | .tt => Nat.zero_le _
  | .ff => Nat.zero_le _
  | .nn s => by
    have := polys_nd1 s
    show nd1 s.polys ≤ _
    rw [Say.d, nd, nd1, nd1, nd1]; omega
  | .bo b s t => by
    have := polys_nd1 s
    have := polys_nd1 t
    have := nd1_filter (fun q => !inK s.polys q) t.polys
    show nd1 (s.polys ++ t.polys.filter fun q => !inK s.polys q) ≤ _
    rw [Say.d, nd, nd1, nd1, nd1, nd1, nd1_app]; omega
  | .qu al x s => by
    have := polys_nd1 s
    show nd1 s.polys ≤ _
    rw [Say.d, nd, nd1, nd1, nd1, nd1]; omega
  | .re w p => by
    show nd1 [p] ≤ _
    rw [Say.d, nd, nd1, nd1, nd1, nd1, nd1]; omega
/-- what is told of a saying -/
def toldD (s : Say) : PyData := .tuple [.int (s.depth : Int), .tuple s.polys, .tuple (s.frees.map .str)]
theorem told_ls {s : Say} (ho : s.ok) (hd : s.depth ≤ 100) (h : Ls B2 50000 s.d) : Ls B2 60000 (toldD s) ∧ dep (toldD s) ≤ 40 := by
  have h1 := polys_nd1 s
  have h2 := h.2
  have hf : lf1 B2 (s.frees.map PyData.str) = true ∧ nd1 (s.frees.map PyData.str) ≤ 4 ∧ dep1 (s.frees.map PyData.str) ≤ 0 := by
    unfold Say.frees
    cases s.free true <;> cases s.free false <;> exact ⟨by decide, by decide, by decide⟩
  have e0 : nd (.int (s.depth : Int)) = 1 := by rw [nd] <;> nofun
  refine ⟨⟨?_, ?_⟩, ?_⟩
  · show lf B2 (.tuple _) = true
    rw [lf]
    refine lf1_of fun e m => ?_
    simp only [List.mem_cons, List.not_mem_nil, or_false] at m
    rcases m with rfl | rfl | rfl
    · rw [lf]; exact decide_eq_true (by have : B2 = 10 ^ 42 := rfl; omega)
    · rw [lf]; exact polys_ls h.1
    · rw [lf]; exact hf.1
  · show nd (.tuple _) ≤ _
    rw [nd, nd1, nd1, nd1, nd1, e0, nd, nd]
    omega
  · show dep (.tuple _) ≤ 40
    have : dep1 s.polys ≤ 2 := dep1_le fun p m => (small_k (Say.polys_small ho p m)).2.1
    have e1 : dep (.int (s.depth : Int)) = 0 := by rw [dep] <;> nofun
    rw [dep, dep1, dep1, dep1, dep1, e1, dep, dep]
    omega
def spIsRight : Sp := fun vs H Q _ => ∃ (a : Addr) (v : V) (d : PyData), vs = [v] ∧ H a ≠ none ∧ Da a H v d ∧ Sm 30 1000 d ∧ Ls B2 50000 d ∧ ∀ H', Same H H' → Q (.bl true) H'
theorem due_some {d : PyData} {t : Say} (h : say d = some t) : dueB d = (decide (t.depth ≤ 10) && decide (t.polys.length ≤ 8)) := by unfold dueB; rw [h]
theorem due_none {d : PyData} (h : say d = none) : dueB d = false := by unfold dueB; rw [h]
section
variable {P : Program} {w : World} {K : PySem.W.Frag} {mg : Str → Option Value} {base : Heap}
theorem scIsRight : FnScope ["_law_thing", "_law_deep_here", "_law_found", "_law_due", "_law_loose", "_law_told", "_law_letter"] ["_law_thing"] (defScope sIsRight) := ⟨rfl, rfl, rfl, by decide +kernel, rfl, by decide +kernel, by decide +kernel⟩
theorem ok_isRight (D : Def K mg "_law_is_right" sIsRight ["_law_thing"]) (nb : Nb mg) (cDeep : Cal P w K mg base "_law_deep" 33 ["_law_thing"] (spDeep 30)) (cPol : Cal P w K mg base "_law_polys" 31 ["_law_said"] (spLPolys 30)) (cIs : Cal P w K mg base "is_saying" 16 ["value"] (spB dueB))
    (cFree : Cal P w K mg base "_law_free" 31 ["_law_said", "_law_letter"] (spLFree 30)) (cDo : Cal P w K mg base "depth_of" 18 ["saying"] spDepthOf) (cPo : Cal P w K mg base "polys_of" 18 ["saying"] spPolysOf) (cFl : Cal P w K mg base "free_letters" 18 ["saying"] spFreeLetters) :
    CalG P w K mg base "_law_is_right" 34 ["_law_thing"] spIsRight := by
  refine D.okG scIsRight (fun vs H Q E h => ?_) (fun f cdv A out s H vs Q E hq hr h => ?_)
  · obtain ⟨a, v, d, rfl, _⟩ := h; rfl
  obtain ⟨a, v, d, rfl, ha, hd, hs, hl, q⟩ := h
  have hu70 : (A.deeper (envOfC "_law_is_right" (defScope sIsRight) s.heap.objs.size f cdv)).units + 70 < cLine := by have := hr.un; omega
  refine ⟨_, (pss_cons (ps_set (i := 1) scIsRight.nd rfl (Or.inl rfl) (pe_cal cDeep hr (by omega) (by rfl) (pa_cons (pv 0) pa_nil)))
    (pss_cons (ps_set (i := 2) scIsRight.nd rfl (Or.inl rfl) (pe_ifExp (pt_cmpR op_gt (pv 1) pe_int (nomark _)) (pe_cal cPol hr (by omega) (by rfl) (pa_cons (pv 0) pa_nil)) (pe_lst pa_nil)))
    (Evl.pss_cut (ps_set (i := 3) scIsRight.nd rfl (Or.inl rfl) (pe_and (pe_chain op_lt op_lt pe_int (pv 1) pe_int) (pe_one (pe_cmpR op_lt (pe_callB (id := "len") (r := rLn K) call_len_seq (by rfl) nb.len PySem.boot_len (pa_cons (pv 2) pa_nil)) pe_int (nomark _)))))
    (pss_cons (ps_if (pt_cmpR op_ne (pe_callB (id := "repr") (r := rShowD) (call_showD hq hu70) (by rfl) nb.repr (by decide +kernel) (pa_cons (pe_cal cIs hr (by omega) (by rfl) (pa_cons (pv 0) pa_nil)) pa_nil)) (pe_callB (id := "repr") (r := rShowD) (call_showD hq hu70) (by rfl) nb.repr (by decide +kernel) (pa_cons (pv 3) pa_nil)) (nomark _)) (pss_one (ps_ret pe_bl)) pss_nil)
    (pss_cons (ps_if (pt_not (pt_val (pv 3))) (pss_one (ps_ret pe_bl)) pss_nil)
    (pss_cons (ps_set (i := 4) scIsRight.nd rfl (Or.inl rfl) (pe_callTy (T := "tuple") call_tuple_of (by rfl) nb.tup (by decide +kernel) (pa_cons (pe_lc (own := [("_law_letter", 6)]) (g := gName 6) (tt := _) rfl scIsRight.nd (pi_tup (pe_tup (pa_cons pe_str (pa_cons pe_str pa_nil)))) (blkOk_by (N := ["_law_thing", "_law_deep_here", "_law_found", "_law_due", "_law_loose", "_law_told", "_law_letter"]) (sc := defScope sIsRight) (by decide +kernel)) (fun _ _ _ _ _ => pg_name (i := 6) scIsRight.nd rfl (Or.inl rfl)) (fun _ _ _ _ _ => pts_one (pt_val (pe_cal cFree hr (by omega) (by rfl) (pa_cons (pv 0) (pa_cons (pv 6) pa_nil))))) (fun _ _ _ _ _ => (pv 6))) pa_nil)))
    (pss_cons (ps_set (i := 5) scIsRight.nd rfl (Or.inl rfl) (pe_tup (pa_cons (pe_cal cDo hr (by omega) (by rfl) (pa_cons (pv 0) pa_nil)) (pa_cons (pe_cal cPo hr (by omega) (by rfl) (pa_cons (pv 0) pa_nil)) (pa_cons (pe_cal cFl hr (by omega) (by rfl) (pa_cons (pv 0) pa_nil)) pa_nil)))))
    (pss_one (ps_ret (pe_cmpR op_eq (pe_callB (id := "repr") (r := rShowD) (call_showD hq hu70) (by rfl) nb.repr (by decide +kernel) (pa_cons (pv 5) pa_nil)) (pe_callB (id := "repr") (r := rShowD) (call_showD hq hu70) (by rfl) nb.repr (by decide +kernel) (pa_cons (pe_tup (pa_cons (pv 1) (pa_cons (pe_callTy (T := "tuple") call_tuple_of (by rfl) nb.tup (by decide +kernel) (pa_cons (pv 2) pa_nil)) (pa_cons (pv 4) pa_nil)))) pa_nil)) (nomark _))))))))))) , ?_⟩
  walk_at "rd"
  refine ⟨v, rfl, a, v, d, rfl, ha, hd, hs, fun H1 s1 => ?_⟩
  have ha1 := same_some s1 ha
  have hd1 := hd.same s1
  have bl40 : ∀ b : Bool, dep (.bool b) ≤ 40 := fun b => Nat.zero_le _
  cases hsay : say d with
  | none =>
    have e0 := deep_none hsay
    refine ⟨_, rfl, _, _, rfl, rfl, _, rfl, ite2 (fun z => absurd (of_decide_eq_true z) (by rw [e0]; decide)) (fun _ => ⟨sz (by decide), fun L nL => ?_⟩)⟩
    have s2 := same_new (o := .lst []) nL
    refine ⟨fun σ' H' => σ' = [some v, some (.int ((deepN d : Nat) : Int)), some (.ref L), some (.bl false), none, none, none] ∧ Same H1 H', ?_, ?_⟩
    · refine ⟨_, rfl, _, _, rfl, rfl, _, rfl, ite2 (fun z => absurd (of_decide_eq_true z) (by rw [e0]; decide)) (fun _ => ⟨_, rfl, iteF ⟨rfl, s2⟩⟩)⟩
    · rintro σ' H2 ⟨rfl, s2⟩
      refine ⟨v, rfl, a, v, d, 30, rfl, hd1.same s2, hs, fun H3 s3 => ⟨a, .bl (dueB d), .bool (dueB d), 1, rfl, .bl _, ls_bl (by decide), by decide, bl40 _, .bl false, rfl, a, .bl false, .bool false, 1, rfl, .bl _, ls_bl (by decide), by decide, bl40 _, rfl, _, rfl, ?_⟩⟩
      rw [due_none hsay, decide_eq_true rfl]
      exact iteF ⟨.bl false, rfl, false, rfl, iteT (q H3 ((s1.trans s2).trans s3))⟩
  | some t =>
    obtain ⟨rfl, ho⟩ := say_some hsay
    have e0 := deep_some hsay
    have tp := t.depth_pos
    have td : t.depth ≤ 30 := Nat.le_trans (depth_dep_le t) hs.1
    refine ⟨_, rfl, _, _, rfl, rfl, _, rfl, ite2 (fun _ => ⟨v, rfl, a, v, t, rfl, ha1, hd1, ho, td, hl.2, fun L H2 s2 dL => ?_⟩) (fun z => absurd (decide_eq_true (by rw [e0]; omega)) z)⟩
    refine ⟨fun σ' H' => σ' = [some v, some (.int ((t.depth : Nat) : Int)), some (.ref L), some (.bl (dueB t.d)), none, none, none] ∧ H' = H2, ?_, ?_⟩
    · rw [e0, due_some hsay]
      refine ⟨_, rfl, _, _, rfl, rfl, _, rfl, ite2 (fun _ => ⟨_, _, rfl, rfl, _, rfl, ?_⟩) (fun z => absurd (decide_eq_true (by omega)) z)⟩
      obtain ⟨pL, xs, e, nL, hL, hx⟩ := da_lst dL
      cases e
      refine ite2 (fun y => ?_) (fun y => ?_)
      · have y := of_decide_eq_true y
        refine ⟨.ref L, rfl, L, xs, rfl, .inl (SqL.of hL), _, _, rfl, rfl, ?_, rfl⟩
        rw [hx.len, decide_eq_true (by omega : t.depth ≤ 10), Bool.true_and]
        have : decide (((t.polys.length : Nat) : Int) < 9) = decide (t.polys.length ≤ 8) := decide_eq_decide.mpr (by omega)
        rw [← this]
        rfl
      · have y : ¬ ((t.depth : Int) < 11) := fun z => y (decide_eq_true z)
        rw [decide_eq_false (by omega : ¬ t.depth ≤ 10), Bool.false_and]
        exact ⟨rfl, rfl⟩
    rintro σ' H' ⟨rfl, rfl⟩
    refine ⟨v, rfl, a, v, t.d, 30, rfl, hd1.same s2, hs, fun H3 s3 => ⟨a, .bl (dueB t.d), .bool (dueB t.d), 1, rfl, .bl _, ls_bl (by decide), by decide, bl40 _, .bl (dueB t.d), rfl, a, .bl (dueB t.d), .bool (dueB t.d), 1, rfl, .bl _, ls_bl (by decide), by decide, bl40 _, rfl, _, rfl, ?_⟩⟩
    rw [decide_eq_true rfl]
    have sA := s1.trans (s2.trans s3)
    refine iteF ⟨.bl (dueB t.d), rfl, dueB t.d, rfl, ?_⟩
    cases hdue : dueB t.d with
    | false => exact iteT (q H3 sA)
    | true =>
      have hdue := due_some hsay ▸ hdue
      rw [Bool.and_eq_true] at hdue
      have h10 := of_decide_eq_true hdue.1
      have h8 := of_decide_eq_true hdue.2
      have ha3 := same_some sA ha
      have hd3 := hd.same sA
      refine iteF ?_
      refine lc_filt (K := K) (l := ["x", "y"]) (fun l => decide (l ∈ t.frees)) (fun R hR => ⟨sz (by simp), fun p np => ⟨p, rfl, ⟨_, SqT.of upd_same⟩, hR p _ (same_new np) fun H2 s2 => SqT.of (s2 _ _ upd_same)⟩⟩) (by decide) (fun x => wipe1 _ 6 x) (fun x H4 hx s4 R hR => ?_) (fun x H4 R hR => ⟨_, rfl, hR⟩) fun F H4 s4 nF h4 => ?_
      · rcases List.mem_cons.mp hx with rfl | hx
        · rw [frees_x] at hR
          exact ⟨v, rfl, .str "x", rfl, a, v, t, true, rfl, same_some s4 ha3, hd3.same s4, ho, td, fun H5 s5 => ⟨_, rfl, hR H5 s5⟩⟩
        · rw [List.mem_singleton.mp hx]
          rw [List.mem_singleton.mp hx, frees_y] at hR
          exact ⟨v, rfl, .str "y", rfl, a, v, t, false, rfl, same_some s4 ha3, hd3.same s4, ho, td, fun H5 s5 => ⟨_, rfl, hR H5 s5⟩⟩
      rw [frees_self] at h4
      refine ⟨F, _, rfl, .inl ⟨SqL.of h4, fun z nz => ?_⟩⟩
      have s5 := same_new (o := .tup (t.frees.map V.str)) nz
      have hz : upd H4 z (.tup (t.frees.map V.str)) z = some (.tup (t.frees.map V.str)) := upd_same
      have za : z ≠ a := new_ne (same_some s4 ha3) nz
      generalize upd H4 z _ = H5 at s5 hz ⊢
      have s5 := (s3.trans s4).trans s5
      have sB := s1.trans (s2.trans s5)
      have ha5 := same_some sB ha
      have hd5 := hd.same sB
      have hs2 : Sm 30 1000 t.d := hs
      refine ⟨v, rfl, a, v, t, 30, rfl, ha5, hd5, hs2, hsay, h10, h8, fun H6 s6 => ?_⟩
      have sC := sB.trans s6
      refine ⟨v, rfl, a, v, t, 30, rfl, same_some sC ha, hd.same sC, hs2, hsay, h10, h8, fun vp O H7 s7 hO hOt dp => ?_⟩
      have sD := sC.trans s7
      refine ⟨v, rfl, a, v, t, 30, rfl, same_some sD ha, hd.same sD, hs2, hsay, h10, h8, fun pf H8 s8 h8f => ?_⟩
      have pO : pf ≠ O := fun e => by
        cases eO : H7 O with
        | none => exact hO eO
        | some o =>
          have e8 := s8 _ _ eO
          rw [← e, h8f] at e8
          cases e8
          exact hOt _ eO
      have das : ∀ (A : Addr) (H' : Hp) (l : List Str), DaAll A H' (l.map V.str) (l.map PyData.str) := fun A H' l => by
        induction l with
        | nil => exact .nil
        | cons x l ih => exact .cons (.str x) ih
      obtain ⟨tl1, tl2⟩ := told_ls ho (by omega) hl
      refine ⟨sz (by simp), fun T nT => ?_⟩
      obtain ⟨s9, d9⟩ := newT (same_some s8 hO) (DaAll.cons (.int (t.depth : Int)) (.cons (dp.same s8) (.cons (.tup pO h8f (das _ _ _)) .nil))) nT
      generalize upd H8 T _ = H9 at s9 d9 ⊢
      refine ⟨.ref T, rfl, O, .ref T, toldD t, 60000, rfl, d9, tl1, by decide, tl2, ?_⟩
      have s59 := ((s6.trans s7).trans s8).trans s9
      have sE := sB.trans s59
      have s29 := s5.trans s59
      obtain ⟨pL, xs, e, nL, hL, hx⟩ := da_lst (dL.same s29)
      cases e
      have ha9 := same_some sE ha
      refine ⟨_, rfl, .ref L, rfl, L, xs, rfl, .inl ⟨SqL.of hL, fun z2 nz2 => ⟨.ref z, rfl, sz (by simp), fun T2 nT2 => ?_⟩⟩⟩
      obtain ⟨s10, d10⟩ := newT ha9 hx nz2
      generalize upd H9 z2 _ = H10 at s10 d10 nT2 ⊢
      have ha10 := same_some s10 ha9
      have hz10 := s10 _ _ (s59 _ _ hz)
      obtain ⟨s11, d11⟩ := newT ha10 (DaAll.cons (.int (t.depth : Int)) (.cons d10 (.cons (.tup za hz10 (das _ _ _)) .nil))) nT2
      refine ⟨a, .ref T2, toldD t, 60000, rfl, d11, tl1, by decide, tl2, rfl, ?_⟩
      rw [decide_eq_true rfl]
      exact q _ ((sE.trans s10).trans s11)
end
end K43

set_option Elab.async false
set_option linter.all false
set_option maxRecDepth 100000
set_option maxHeartbeats 8000000
local macro_rules | `(tactic| walk_at "rd") => `(tactic| dsimp only [Evl.tCut, L2.tSeq, L2.tNext, L2.tRet, L2.tRetN, L2.tAsg, L2.gName, L2.tIfS, L2.tDrop, L2.tCons, L2.tNil, L2.tC, L2.tVar, L2.tCB, L2.tAndV, L2.tOrV, L2.tNotV, L2.tB, L2.tTest, L2.tOp, L2.tUn, L2.tNot, L2.tAnd, L2.tOr, L2.tIf, L2.tCall, L2.tTup, L2.tLst, L2.tNotT, L2.tYes, L2.gTup, L2.gCons, L2.gNil, L2.gSub, L2.tBM0, L2.tBM, L2.tWhile, L2.tFor, L2.iRng1, L2.iRng2, L2.tAugS, Tw.iEnumT, L2.tCKw, L2.tAug, L2.ipI, RT.iRevA, L2.tPar, L2.tPar3, L2.tSl, L2.tNoPart, L2.tPart, Tw.tRevT, Tw.tFput])
namespace K43
open PySem PySem.Spec PyProof.Rows L2 Tw
theorem das_pols {a : Addr} {H H' : Hp} (k : ∀ b zs, b ≠ a → H b = some (.tup zs) → H' b = some (.tup zs)) : ∀ {xs : List V} {ds : List PyData}, (∀ d ∈ ds, PolD d) → DaAll a H xs ds → DaAll a H' xs ds
  | _, _, _, .nil => .nil
  | _, d :: ds, hr, .cons h t => by
    refine .cons ?_ (das_pols k (fun e m => hr e (by simp [m])) t)
    obtain ⟨rs, rfl, _, hrs⟩ := hr d (by simp)
    obtain ⟨p, ys, rfl, np, hp, hy⟩ := da_tup h
    exact .tup np (k _ _ np hp) (das_rows k hrs hy)
theorem pick_num {a : Addr} {H : Hp} {l : List Int} {R : VK} {E : XK} (hw : We a H) (h0 : 0 < l.length) (h1 : l.length ≤ 20) (q : ∀ i H', i ∈ l → Kp a H H' → We a H' → R (.int i) H') :
    ∃ a' : Addr, H a' ≠ none ∧ ∀ v H1, Same H H1 → Da a' H1 v (.tuple (l.map PyData.int)) → spPick [.ref a, v] H1 R E := by
  refine ⟨a, hw.some, fun v H1 s1 dv => ?_⟩
  obtain ⟨p, xs, rfl, np, hp, hx⟩ := da_tup dv
  have lx := hx.len
  rw [List.length_map] at lx
  refine ⟨a, p, xs, rfl, hw.to s1, np, hp, fun z => by rw [z] at lx; simp at lx; omega, by omega, fun i x H2 hi k2 w2 => ?_⟩
  obtain ⟨d, e1, e2⟩ := hx.get hi
  obtain ⟨n, hn, rfl⟩ := List.mem_map.mp (List.mem_of_getElem? e1)
  cases e2
  exact q n H2 hn ((Kp.of s1).trans k2) w2
theorem wt_max (fl : Bool) {n : Nat} (h : n ≤ 12) (g : fl = true → n ≤ 5) : wt fl n ≤ 2100 := by
  unfold wt
  cases fl with
  | true =>
    have := g rfl
    have : 2 ^ n ≤ 2 ^ 5 := Nat.pow_le_pow_right (by decide) this
    rw [if_pos rfl]; omega
  | false =>
    rw [if_neg Bool.false_ne_true]
    split <;> omega
theorem lc_allT {K : PySem.W.Frag} {a : Addr} {wi : TI} {j : Nat} {te : TE} {vs : List Nat} {σ : L2.St} {H : Hp} {Q : VK} (G : Hp → List PyData → Prop)
    (hi : ∀ R : It → Hp → Prop, (∀ p xs ds H1, H1 p = some (.tup xs) → DaAll a H1 xs ds → ds.length < 100000 → G H1 ds → R (Itt K p) H1) → wi σ H R)
    (hw : ∀ x, wipe ((wipe σ vs).set j (some x)) vs = wipe σ vs)
    (he : ∀ H1 ds, G H1 ds → ∀ x d H2, d ∈ ds → Same H1 H2 → Da a H2 x d → ∀ R : VK, (∀ H3, Same H2 H3 → R (.bl true) H3) → te ((wipe σ vs).set j (some x)) H2 R)
    (q : ∀ H1 ds, G H1 ds → ∀ D H', Same H1 H' → H' D = some (.lst (ds.map fun _ => V.bl true)) → Q (.ref D) H') : tLc wi (gName j) tYes te vs σ H Q := by
  refine hi _ fun p xs ds H1 hp hx hl g => ?_
  exact lc_mapI (K := K) (a := a) (ds := ds) (wi := fun _ _ R => R (Itt K p) H1) (σ := σ) (H := H1) (fun _ => V.bl true) (fun R hR => hR p xs H1 (Same.refl _) hp hx) hl hw (fun x d H2 hm s2 dx R k => he H1 ds g x d H2 hm s2 dx R k) (fun D H' s h => q H1 ds g D H' s h)
def spRight : Sp := fun vs H Q _ => ∃ a, vs = [.ref a] ∧ We a H ∧ ∀ H', Kp a H H' → Q (.bl true) H'
section
variable {P : Program} {w : World} {K : PySem.W.Frag} {mg : Str → Option Value} {base : Heap}
theorem scRight : FnScope ["_law_well_here", "_law_some", "_law_lap", "_law_is_full", "_law_deep_here", "_law_thing", "_law_more", "_law_each"] ["_law_well_here"] (defScope sRight) := ⟨rfl, rfl, rfl, by decide +kernel, rfl, by decide +kernel, by decide +kernel⟩
theorem ok_right (D : Def K mg "_law_right" sRight ["_law_well_here"]) (nb : Nb mg) (c1 : Cal P w K mg base "_law_draw" 1 ["_law_well_here", "_law_many"] spDraw) (cP : Cal P w K mg base "_law_pick" 2 ["_law_well_here", "_law_some"] spPick) (cY : Cal P w K mg base "_law_poly" 3 ["_law_well_here"] spLPoly)
    (cMd : Cal P w K mg base "_law_made" 16 ["_law_well_here", "_law_some", "_law_count", "_law_deep_here", "_law_is_full"] (spMade 12)) (cC : Cal P w K mg base "_law_changed" 23 ["_law_well_here", "_law_thing"] (spChg 20)) (cI : CalG P w K mg base "_law_is_right" 34 ["_law_thing"] spIsRight) : CalG P w K mg base "_law_right" 35 ["_law_well_here"] spRight := by
  refine D.okG scRight (fun vs H Q E h => ?_) (fun f cdv A out s H vs Q E hq hr h => ?_)
  · obtain ⟨a, rfl, _⟩ := h; rfl
  obtain ⟨a, rfl, hw, q⟩ := h
  refine ⟨_, (pss_cons (ps_set (i := 1) scRight.nd rfl (Or.inl rfl) (pe_lst pa_nil))
    (pss_cons (ps_for PassesOwn.never rfl (pi_range1 (by rfl) nb.rng (pa_cons (pe_cal cP hr (by omega) (by rfl) (pa_cons (pv 0) (pa_cons (pe_lit _ (d := .tuple (([2, 1, 3, 5, 8, 9, 10] : List Int).map PyData.int)) (by rfl)) pa_nil))) pa_nil)) (pg_name (i := 2) scRight.nd rfl (Or.inl rfl)) (pss_one (ps_expr (pe_bm PySem.F.plainAttrs_list PySem.F.slot_list_append PySem.F.type_list_append mt_append (pv 1) (pa_cons (pe_cal cY hr (by omega) (by rfl) (pa_cons (pv 0) pa_nil)) pa_nil)))))
    (pss_cons (ps_set (i := 3) scRight.nd rfl (Or.inl rfl) (pe_cmpR op_eq (pe_cal c1 hr (by omega) (by rfl) (pa_cons (pv 0) (pa_cons pe_int pa_nil))) pe_int (nomark _)))
    (Evl.pss_cut (ps_set (i := 4) scRight.nd rfl (Or.inl rfl) (pe_ifExp (pt_val (pv 3)) (pe_op op_add pe_int (pe_cal c1 hr (by omega) (by rfl) (pa_cons (pv 0) (pa_cons pe_int pa_nil)))) (pe_cal cP hr (by omega) (by rfl) (pa_cons (pv 0) (pa_cons (pe_lit _ (d := .tuple (([1, 2, 3, 4, 10, 5, 11, 7, 10, 12] : List Int).map PyData.int)) (by rfl)) pa_nil)))))
    (pss_cons (ps_set (i := 5) scRight.nd rfl (Or.inl rfl) (pe_cal cMd hr (by omega) (by rfl) (pa_cons (pv 0) (pa_cons (pv 1) (pa_cons (pe_lst (pa_cons pe_int pa_nil)) (pa_cons (pv 4) (pa_cons (pv 3) pa_nil)))))))
    (pss_cons (ps_set (i := 6) scRight.nd rfl (Or.inl rfl) (pe_cal cC hr (by omega) (by rfl) (pa_cons (pv 0) (pa_cons (pv 5) pa_nil))))
    (pss_one (ps_ret (pe_callB (id := "all") (r := rAll K) (cr_all rfl) (by rfl) nb.all (by decide +kernel) (pa_cons (pe_lc (own := [("_law_each", 7)]) (g := gName 7) (tt := tYes) rfl scRight.nd (pi_tup (pe_tup (pa_cons (pv 5) (pa_cons (pv 6) (pa_cons (pe_cal cC hr (by omega) (by rfl) (pa_cons (pv 0) (pa_cons (pv 6) pa_nil))) pa_nil))))) (blkOk_by (N := ["_law_well_here", "_law_some", "_law_lap", "_law_is_full", "_law_deep_here", "_law_thing", "_law_more", "_law_each"]) (sc := defScope sRight) (by decide +kernel)) (fun _ _ _ _ _ => pg_name (i := 7) scRight.nd rfl (Or.inl rfl)) (fun _ _ _ _ _ => pts_nil) (fun _ _ _ _ _ => (pe_calG cI hq hr (by omega) (by rfl) (pa_cons (pv 7) pa_nil)))) pa_nil)))))))))), ?_⟩
  walk_at "rd"
  refine ⟨sz (by decide), fun L nL => ?_⟩
  have La : L ≠ a := hw.ne nL
  have k1 : Kp a H (upd H L (.lst [])) := kp_new nL
  have w1 : We a (upd H L (.lst [])) := we_new (o := .lst []) hw nL
  have e1 : upd H L (.lst []) L = some (.lst []) := upd_same
  generalize upd H L (.lst []) = H1 at k1 w1 e1 ⊢
  refine ⟨.ref a, rfl, pick_num w1 (by decide) (by decide) fun n H2 hn k2 w2 => ?_⟩
  have hn2 : 1 ≤ n ∧ n ≤ 10 := by
    simp only [List.mem_cons, List.not_mem_nil, or_false] at hn
    omega
  refine ⟨n, rfl, by omega, by omega, for_rng (lo := 0) (n := n.toNat) (fun i σ H' => ∃ (x2 : Option V) (xs : List V) (ds : List PyData), σ = [some (.ref a), some (.ref L), x2, none, none, none, none, none] ∧ Kp a H H' ∧ We a H' ∧ H' L = some (.lst xs) ∧ DaAll a H' xs ds ∧ ds.length = i ∧ ∀ d ∈ ds, PolD d) ?_ ?_ ?_⟩
  · exact ⟨none, [], [], rfl, k1.trans k2, w2, k2 _ _ La e1, .nil, rfl, fun d hd => nomatch hd⟩
  · rintro i σ H3 hi ⟨x2, xs, ds, rfl, k3, w3, e3, d3, l3, p3⟩
    walk_at "rd"
    refine ⟨.ref L, rfl, .inl ⟨rfl, _, SqL.of e3⟩, .ref a, rfl, a, rfl, w3, fun v d H4 k4 w4 d4 pd => ⟨L, xs, v, rfl, rfl, k4 _ _ La e3, ?_, ?_⟩⟩
    · rw [d3.len]; exact lt_line (by omega)
    · refine ⟨some (.int (0 + (i : Int))), xs ++ [v], ds ++ [d], rfl, kp_upd (k3.trans k4) nL, we_upd w4 La, upd_same, ?_, by simp [l3], fun e he => ?_⟩
      · refine das_pols (H := H4) (fun b zs nb hb => ?_) (fun e he => ?_) ((d3.kp k4).append (.cons d4 .nil))
        · rw [upd_ne (fun z => by rw [z, k4 _ _ La e3] at hb; cases hb)]; exact hb
        · rcases List.mem_append.mp he with he | he
          · exact p3 e he
          · rw [List.mem_singleton.mp he]; exact pd
      · rcases List.mem_append.mp he with he | he
        · exact p3 e he
        · rw [List.mem_singleton.mp he]; exact pd
  rintro σ H3 ⟨x2, xs, ps, rfl, k3, w3, e3, d3, l3, p3⟩
  refine ⟨.ref a, rfl, a, _, rfl, w3, by decide, by decide, fun r H4 r0 r1 k4 w4 => ⟨rfl, ?_⟩⟩
  generalize decide (V.int r = V.int 0) = fl
  have k4' := k3.trans k4
  refine ⟨fun σ' H' => ∃ dp : Nat, 1 ≤ dp ∧ dp ≤ 12 ∧ (fl = true → dp ≤ 5) ∧ σ' = [some (.ref a), some (.ref L), x2, some (.bl fl), some (.int (dp : Int)), none, none, none] ∧ Kp a H4 H' ∧ We a H', ?_, ?_⟩
  · refine ⟨.bl fl, rfl, fl, rfl, ?_⟩
    cases fl with
    | true =>
      refine iteT ⟨.ref a, rfl, a, _, rfl, w4, by decide, by decide, fun t H5 t0 t1 k5 w5 => ⟨_, _, rfl, rfl, ?_⟩⟩
      obtain ⟨m, em⟩ := Int.eq_ofNat_of_zero_le (show 0 ≤ 1 + t by omega)
      exact ⟨m, by omega, by omega, fun _ => by omega, by rw [← em]; rfl, k5, w5⟩
    | false =>
      refine iteF ⟨.ref a, rfl, pick_num w4 (by decide) (by decide) fun t H5 ht k5 w5 => ?_⟩
      have ht2 : 1 ≤ t ∧ t ≤ 12 := by
        simp only [List.mem_cons, List.not_mem_nil, or_false] at ht
        omega
      obtain ⟨m, em⟩ := Int.eq_ofNat_of_zero_le (show 0 ≤ t by omega)
      exact ⟨m, by omega, by omega, (fun z => nomatch z), by rw [← em]; rfl, k5, w5⟩
  rintro σ' H5 ⟨dp, dp0, dp1, dpf, rfl, k5, w5⟩
  refine ⟨.ref a, rfl, .ref L, rfl, sz (by simp), fun c nc => ?_⟩
  have ca : c ≠ a := w5.ne nc
  have k45 := k4.trans k5
  have e5 := k45 _ _ La e3
  have d5 := d3.kp k45
  have s6 := same_new (o := .lst [V.int 0]) nc
  have ec : upd H5 c (.lst [V.int 0]) c = some (.lst [V.int 0]) := upd_same
  have dc := (das_new nc d5).kp (H' := upd H5 c (.lst [V.int 0])) (Kp.of s6)
  generalize upd H5 c (.lst [V.int 0]) = H6 at s6 ec dc ⊢
  have Lc : L ≠ c := fun z => by rw [z, nc] at e5; cases e5
  have cx : Ctx a c L H6 ps := ⟨w5.to s6, ca, ⟨0, by decide, ec⟩, La, Lc, xs, s6 _ _ e5, d5.same s6, dc⟩
  refine ⟨.int (dp : Int), rfl, .bl fl, rfl, a, L, c, ps, dp, fl, rfl, cx, ⟨by omega, by omega, p3⟩, dp0, dp1, fun v1 d1 H7 k7 cx7 b7 l7 => ?_⟩
  have hwt := wt_max fl dp1 dpf
  have w7 := cx7.w
  have k57 : Kp a H5 H7 := fun b o na e => k7 b o na (ne_of_none e nc) (s6 _ _ e)
  have kA := (k4'.trans k5).trans k57
  have n7 := l7.1.2
  refine ⟨.ref a, rfl, v1, rfl, a, v1, d1, 14, 10, rfl, w7, b7.1, l7.2.up (by omega) (Nat.le_refl _), by decide, by decide, by decide, l7.1.1, fun v2 d2 H8 k8 w8 b8 m8 l8 => ?_⟩
  have n8 := l8.2
  have kB := kA.trans k8
  refine lc_allT (K := K) (a := a) (fun H' ds => Kp a H H' ∧ H' a ≠ none ∧ ∀ d ∈ ds, Sm 30 1000 d ∧ Ls B2 50000 d) (fun R hR => ?_) (wipe1 _ 7) (fun H9 ds g x d H10 hm s10 dx R hR => ?_) fun H9 ds g F H10 s10 h10 => ?_
  · refine ⟨v1, rfl, v2, rfl, .ref a, rfl, v2, rfl, a, v2, d2, 15, 11, rfl, w8, b8, m8.up (by omega) (by omega), by decide, by decide, by decide, l8.1, fun v3 d3 H9 k9 w9 b9 m9 l9 => ⟨sz (by simp), fun p np => ?_⟩⟩
    have n9 := l9.2
    have b71 := (b7.1.kp k8).kp k9
    obtain ⟨s10, dT⟩ := newT w9.some (DaAll.cons b71 (.cons (b8.kp k9) (.cons b9 .nil))) np
    obtain ⟨pT, zs, e, _, hT, hz⟩ := da_tup dT
    cases e
    refine ⟨p, rfl, ⟨_, SqT.of hT⟩, hR p zs [d1, d2, d3] _ hT hz (by simp) ⟨(kB.trans k9).trans (Kp.of s10), same_some s10 w9.some, fun d hd => ?_⟩⟩
    simp only [List.mem_cons, List.not_mem_nil, or_false] at hd
    rcases hd with rfl | rfl | rfl
    · exact ⟨l7.2.up (by omega) (by decide), l7.1.up (Nat.le_refl _) (by omega)⟩
    · exact ⟨m8.up (by omega) (by decide), l8.up (Nat.le_refl _) (by omega)⟩
    · exact ⟨m9.up (by omega) (by decide), l9.up (Nat.le_refl _) (by omega)⟩
  · obtain ⟨g1, g2, g3⟩ := g
    obtain ⟨g4, g5⟩ := g3 d hm
    exact ⟨x, rfl, a, x, d, rfl, same_some s10 g2, dx, g4, g5, fun H11 s11 => hR H11 s11⟩
  · obtain ⟨g1, g2, g3⟩ := g
    refine ⟨F, ds.map (fun _ => true), rfl, SqL.of (by rw [List.map_map]; exact h10), ?_⟩
    have e : (ds.map (fun _ => true)).all id = true := by
      rw [List.all_eq_true]
      intro b hb
      obtain ⟨_, _, rfl⟩ := List.mem_map.mp hb
      rfl
    rw [e]
    exact q H10 (g1.trans (Kp.of s10))
theorem scLaw : FnScope ["_law_script", "_law_at"] ["_law_script"] (defScope sLaw) := ⟨rfl, rfl, rfl, by decide +kernel, rfl, by decide +kernel, by decide +kernel⟩
theorem ok_law (D : Def K mg "law" sLaw ["_law_script"]) (nb : Nb mg) (c1 : Cal P w K mg base "_law_well" 1 ["_law_script", "_law_at"] (spWell K)) (c2 : CalG P w K mg base "_law_right" 35 ["_law_well_here"] spRight) :
    CalG P w K mg base "law" 36 ["_law_script"] (spLaw K) := by
  refine D.okG scLaw (fun vs H Q E h => ?_) (fun f cdv A out s H vs Q E hq hr h => ?_)
  · obtain ⟨p, ns, rfl, _⟩ := h; rfl
  obtain ⟨p, ns, rfl, hp, hl, q⟩ := h
  refine ⟨_, pss_one (ps_ret (pe_callB (id := "all") (r := rAll K) (cr_all rfl) (by rfl) nb.all (by decide +kernel) (pa_cons
    (pe_lc (own := [("_law_at", 1)]) (g := gName 1) (tt := tYes) rfl scLaw.nd (pi_range1 (by rfl) nb.rng (pa_cons (pe_callB (id := "max") (call_max2 rfl) (by rfl) nb.max (by decide +kernel) (pa_cons pe_int (pa_cons
        (pe_callB (id := "min") (call_min2 rfl) (by rfl) nb.min (by decide +kernel) (pa_cons (pe_callB (id := "len") call_len_seq (by rfl) nb.len PySem.boot_len (pa_cons (pv 0) pa_nil)) (pa_cons pe_int pa_nil))) pa_nil))) pa_nil))
      (blkOk_by (N := ["_law_script", "_law_at"]) (sc := defScope sLaw) (by decide +kernel)) (fun _ _ _ _ _ => pg_name (i := 1) scLaw.nd rfl (Or.inl rfl)) (fun _ _ _ _ _ => pts_nil)
      (fun _ _ _ _ _ => pe_calG c2 hq hr (by decide) (by rfl) (pa_cons (pe_cal c1 hr (by decide) (by rfl) (pa_cons (pv 0) (pa_cons (pv 1) pa_nil))) pa_nil))) pa_nil))), ?_⟩
  walk_at "rd"
  generalize hm : (if (3 : Int) < ((ns.map V.int).length : Int) then (3 : Int) else ((ns.map V.int).length : Int)) = m
  generalize hk : (if m > 1 then m else 1) = k
  have k0 : 1 ≤ k := by rw [← hk]; split <;> omega
  have k1 : k ≤ 4 := by
    have : m ≤ 4 := by rw [← hm]; split <;> omega
    rw [← hk]; split <;> omega
  refine lc_rng (n := k.toNat) (fun _ => V.bl true) (fun R hR => ?_) (by omega) (wipe1 _ 1) (fun i H1 hi s1 R kR => ?_) fun L H1 s1 nL hL => ?_
  · refine ⟨.ref p, rfl, p, _, rfl, .inl hp, _, _, rfl, _, _, rfl, k, ?_, by omega, by omega, hR⟩
    rw [hm, hk]
  · refine ⟨.ref p, rfl, .int (0 + (i : Int)), rfl, p, ns, _, rfl, s1.seq hp, hl, by omega, fun a H2 s2 na w2 => ⟨a, rfl, w2, fun H3 k3 => kR H3 (same_kp s2 na k3)⟩⟩
  · refine ⟨L, (List.range k.toNat).map (fun _ => true), rfl, SqL.of (by rw [List.map_map]; exact hL), ?_⟩
    have e : ((List.range k.toNat).map (fun _ => true)).all id = true := by
      rw [List.all_eq_true]
      intro b hb
      obtain ⟨_, _, rfl⟩ := List.mem_map.mp hb
      rfl
    rw [e]
    exact q H1
end
end K43

set_option Elab.async false
set_option linter.all false
set_option maxRecDepth 100000
set_option maxHeartbeats 8000000
local macro_rules | `(tactic| walk_at "rd") => `(tactic| dsimp only [Evl.tCut, L2.tSeq, L2.tNext, L2.tRet, L2.tRetN, L2.tAsg, L2.gName, L2.tIfS, L2.tDrop, L2.tCons, L2.tNil, L2.tC, L2.tVar, L2.tCB, L2.tAndV, L2.tOrV, L2.tNotV, L2.tB, L2.tTest, L2.tOp, L2.tUn, L2.tNot, L2.tAnd, L2.tOr, L2.tIf, L2.tCall, L2.tTup, L2.tLst, L2.tNotT, L2.tYes, L2.gTup, L2.gCons, L2.gNil, L2.gSub, L2.tBM0, L2.tBM, L2.tWhile, L2.tFor, L2.iRng1, L2.iRng2, L2.tAugS, Tw.iEnumT, L2.tCKw, L2.tAug, L2.ipI, RT.iRevA, L2.tPar, L2.tPar3, L2.tSl, L2.tNoPart, L2.tPart, Tw.tRevT, Tw.tFput])
namespace K43
open PySem PySem.Spec PyProof.Rows L2 Tw
/-! the text's constants -/
theorem with_int {R : Prop} {K : PySem.W.Frag} {mg : Str → Option Value} {x : Str} {i : Int} {t : Tok} {h : Heap} (X : K.In h) (G : h.Ns mainGlobals mg) (a : PySem.W.nsIn K mainGlobals x = some (some (.int i t))) (go : (∃ t, mg x = some (.int i t)) → R) : R := go ⟨t, PySem.W.mg_of X G a⟩
theorem with_tup2 {R : Prop} {K : PySem.W.Frag} {mg : Str → Option Value} {x z1 z2 : Str} {t1 t2 : Tok} {p : Addr} {od : Option Addr} {sl : Array (Option Value)} {n : Nat} {h : Heap} (X : K.In h) (G : h.Ns mainGlobals mg) (a : PySem.W.nsIn K mainGlobals x = some (some (.ref p)))
    (l : K.lookup p = some ⟨.type "tuple", od, .seq #[.str z1 t1, .str z2 t2] n, sl⟩) (go : (∃ p, mg x = some (.ref p) ∧ ∀ H : Hp, SqT K H p [.str z1, .str z2]) → R) : R :=
  go ⟨p, PySem.W.mg_of X G a, fun H => Or.inr ⟨_, _, n, l, rfl, rfl, sz (by show 2 ≤ 100000; decide), .cons ⟨_, rfl⟩ (.cons ⟨_, rfl⟩ .nil)⟩⟩
theorem rel_find {z : Str} {es : List DictEntry} (h : ∀ e ∈ es, e.key.isStr z = false) : es.find? (fun e => e.key.isStr z) = none := List.find?_eq_none.mpr fun e he => by rw [h e he]; exact Bool.false_ne_true
theorem with_rel {R : Prop} {K : PySem.W.Frag} {w : World} {mg : Str → Option Value} {h : Heap} {d : Addr} {n : Nat} {t1 t2 t3 t4 t5 t6 : Tok} {v1 v2 v3 v4 v5 v6 : Value} {h1 h2 h3 h4 h5 h6 : Int} (X : K.In h) (G : h.Ns mainGlobals mg) (a : PySem.W.nsIn K mainGlobals "RELATIONS" = some (some (.ref d)))
    (l : K.lookup d = some ⟨.type "dict", none, .dict #[⟨h1, .str "below" t1, v1⟩, ⟨h2, .str "at" t2, v2⟩, ⟨h3, .str "above" t3, v3⟩, ⟨h4, .str "not below" t4, v4⟩, ⟨h5, .str "not at" t5, v5⟩, ⟨h6, .str "not above" t6, v6⟩] n, #[]⟩)
    (k1 : h1 = PyData.keyHash w.params "below") (k2 : h2 = PyData.keyHash w.params "at") (k3 : h3 = PyData.keyHash w.params "above") (k4 : h4 = PyData.keyHash w.params "not below") (k5 : h5 = PyData.keyHash w.params "not at") (k6 : h6 = PyData.keyHash w.params "not above")
    (lo : (d == sysModules) = false) (go : (∃ (d : Addr) (es : Array DictEntry) (n : Nat), mg "RELATIONS" = some (.ref d) ∧ KDict K w d es n ∧ ∀ z, ∃ r, PySem.W.nsIn K d z = some r ∧ r.isSome = decide (z ∈ rels)) → R) : R := by
  refine go ⟨d, _, n, PySem.W.mg_of X G a, ⟨l, ⟨⟨_, _, rfl, k1⟩, ⟨_, _, rfl, k2⟩, ⟨_, _, rfl, k3⟩, ⟨_, _, rfl, k4⟩, ⟨_, _, rfl, k5⟩, ⟨_, _, rfl, k6⟩, trivial⟩, lo⟩, fun z => ?_⟩
  unfold PySem.W.nsIn
  rw [l]
  by_cases hz : z ∈ rels
  · rw [decide_eq_true hz]
    simp only [rels, List.mem_cons, List.not_mem_nil, or_false] at hz
    rcases hz with rfl | rfl | rfl | rfl | rfl | rfl
    · exact ⟨some v1, rfl, rfl⟩
    · exact ⟨some v2, rfl, rfl⟩
    · exact ⟨some v3, rfl, rfl⟩
    · exact ⟨some v4, rfl, rfl⟩
    · exact ⟨some v5, rfl, rfl⟩
    · exact ⟨some v6, rfl, rfl⟩
  · rw [decide_eq_false hz]
    have ne : ∀ x ∈ rels, (x == z) = false := fun x hx => beq_eq_false_iff_ne.mpr fun e => hz (e ▸ hx)
    refine ⟨none, ?_, rfl⟩
    dsimp only
    rw [rel_find]
    · rfl
    · intro e he
      simp only [List.mem_cons, List.not_mem_nil, or_false] at he
      rcases he with rfl | rfl | rfl | rfl | rfl | rfl
      · exact ne "below" (by decide)
      · exact ne "at" (by decide)
      · exact ne "above" (by decide)
      · exact ne "not below" (by decide)
      · exact ne "not at" (by decide)
      · exact ne "not above" (by decide)
end K43

set_option Elab.async false
set_option linter.all false
set_option maxRecDepth 100000
namespace K43
open PySem PySem.Spec PyProof.Rows L2 Tw
/-- all defs and names, put together -/
theorem whole {P : Program} {w : World} {K : PySem.W.Frag} {mg : Str → Option Value} (nb : Nb mg) (cs : Cs K w mg)
    (d0 : Def K mg "is_whole" sWhole ["value"])
    (d1 : Def K mg "is_row" sRow ["value"])
    (d2 : Def K mg "is_poly" sPoly ["value"])
    (d3 : Def K mg "width_in_x" sWidth ["poly"])
    (d4 : Def K mg "letters_of" sLettersOf ["poly"])
    (d5 : Def K mg "free_in" sFreeIn ["saying"])
    (d6 : Def K mg "depth_in" sDepthIn ["saying"])
    (d7 : Def K mg "is_small_poly" sSmall ["value"])
    (d8 : Def K mg "is_letter" sIsLetter ["value"])
    (d9 : Def K mg "does_fit" sFit ["value", "deep", "found"])
    (d10 : Def K mg "unlike_polys" sUnlike ["saying"])
    (d11 : Def K mg "check_saying" sCheck ["saying"])
    (d12 : Def K mg "is_saying" sIsSaying ["value"])
    (d13 : Def K mg "depth_of" sDepthOf ["saying"])
    (d14 : Def K mg "polys_of" sPolysOf ["saying"])
    (d15 : Def K mg "free_letters" sFreeLetters ["saying"])
    (d16 : Def K mg "_law_well" sWell ["_law_script", "_law_at"])
    (d17 : Def K mg "_law_draw" sDraw ["_law_well_here", "_law_many"])
    (d18 : Def K mg "_law_pick" sPick ["_law_well_here", "_law_some"])
    (d19 : Def K mg "_law_row" sLRow ["_law_some"])
    (d20 : Def K mg "_law_number" sNumber ["_law_well_here"])
    (d21 : Def K mg "_law_poly" sLPoly ["_law_well_here"])
    (d22 : Def K mg "_law_leaf" sLeaf ["_law_well_here", "_law_some", "_law_count"])
    (d23 : Def K mg "_law_made" sMade ["_law_well_here", "_law_some", "_law_count", "_law_deep_here", "_law_is_full"])
    (d24 : Def K mg "_law_changed" sChanged ["_law_well_here", "_law_thing"])
    (d25 : Def K mg "_law_is_row" sIsRow ["_law_thing"])
    (d26 : Def K mg "_law_is_poly" sIsPoly ["_law_thing"])
    (d27 : Def K mg "_law_deep" sDeep ["_law_thing"])
    (d28 : Def K mg "_law_polys" sPolys ["_law_said"])
    (d29 : Def K mg "_law_free" sFree ["_law_said", "_law_letter"])
    (d30 : Def K mg "_law_is_right" sIsRight ["_law_thing"])
    (d31 : Def K mg "_law_right" sRight ["_law_well_here"])
    (d32 : Def K mg "law" sLaw ["_law_script"])
    (base : Heap) : CalG P w K mg base "law" 36 ["_law_script"] (spLaw K) := by
  have c_whole := ok_whole (P := P) (w := w) (base := base) d0 nb
  have c_row := ok_row d1 nb c_whole
  have c_poly := ok_poly d2 nb c_row
  have c_width := ok_width (P := P) (w := w) (base := base) d3 nb
  have c_lof := ok_lettersOf d4 nb c_width
  have c_free := free_all d5 nb cs c_lof 10
  have c_dep := depth_all (P := P) (w := w) (base := base) d6 nb 10
  have c_small := ok_small d7 nb cs c_poly c_width
  have c_let := ok_isLetter (P := P) (w := w) (base := base) d8 nb cs
  have c_fit := fit_all d9 nb cs c_let c_small 10
  have c_unl := ok_unlike d10 nb cs c_fit
  have c_chk := ok_check d11 nb cs c_unl
  have c_is := ok_isSaying d12 nb cs c_fit
  have c_do := ok_depthOf d13 nb c_chk c_dep
  have c_po := ok_polysOf d14 nb c_chk c_unl
  have c_fl := ok_freeLetters d15 nb c_chk c_free
  have c_well := ok_well (P := P) (w := w) (base := base) d16 nb
  have c_draw := ok_draw (P := P) (w := w) (base := base) d17 nb
  have c_pick := ok_pick d18 nb c_draw
  have c_lrow := ok_lrow (P := P) (w := w) (base := base) d19 nb
  have c_num := ok_number d20 c_draw
  have c_lpoly := ok_lpoly d21 nb c_draw c_num c_lrow
  have c_leaf := ok_leaf d22 nb c_draw c_pick
  have c_made := made_all d23 nb c_draw c_pick c_leaf 12
  have c_chg := chg_all d24 nb c_draw c_pick 20
  have c_ir := ok_isRow (P := P) (w := w) (base := base) d25 nb
  have c_ip := ok_isPoly d26 nb c_ir
  have c_deep := deep_all d27 nb c_ip 30
  have c_lp := polys_all (P := P) (w := w) (base := base) d28 nb 30
  have c_lf := lfree_all (P := P) (w := w) (base := base) d29 nb 30
  have c_isr := ok_isRight d30 nb c_deep c_lp c_is c_lf c_do c_po c_fl
  have c_right := ok_right d31 nb c_draw c_pick c_lpoly c_made c_chg c_isr
  exact ok_law d32 nb c_well c_right
end K43
open PySem PySem.W PyProof.Rows
set_option maxHeartbeats 0 in
theorem PySem.Challenge.cw_twoletters_k43_whole_sayings_of_anything_holds : PySem.Challenge.rw_twoletters_k43_whole_sayings_of_anything.Holds := by
  w_on; o_law; k_head; (case hw => w_witness2)
  k_fill
  refine Tw.walk_quiet (l := PySem.Challenge.rw_twoletters_k43_whole_sayings_of_anything) (n := 63) (k := 36) (x := "_law_script") (sp := K43.spLaw) rfl (by decide) rfl ⟨rfl, by decide, by decide⟩ (fun w h Y => PySem.W.kIn_of Y) ?F
    (fun K H a ns hl _ hS => ⟨a, ns, rfl, hS, hl, fun _ => rfl⟩)
  case F =>
    intro w mg fa h KX G hmg
    refine' K43.with_tup2 (x := "LETTERS") (z1 := "x") (z2 := "y") KX G ?z ?l (fun s_ltr => ?_)
    (case z => k_is); (case l => k_is)
    refine' K43.with_int (x := "DEEPEST") (i := 10) KX G ?z (fun s_dee => ?_)
    (case z => k_is)
    refine' K43.with_int (x := "MOST_UNLIKE") (i := 8) KX G ?z (fun s_mun => ?_)
    (case z => k_is)
    refine' K43.with_int (x := "MOST_DEGREE") (i := 4) KX G ?z (fun s_mdg => ?_)
    (case z => k_is)
    refine' K43.with_rel (w := w) KX G ?a ?l ?k1 ?k2 ?k3 ?k4 ?k5 ?k6 ?lo (fun s_rel => ?_)
    (case a => k_is); (case l => k_is); (case k1 => rfl); (case k2 => rfl); (case k3 => rfl); (case k4 => rfl); (case k5 => rfl); (case k6 => rfl); (case lo => first | rfl | decide)
    refine' Tw.with_def (x := "is_whole") (st := K43.sWhole) (ps := ["value"]) KX G ?a ?l ?c ?k (fun _ _ _ _ _ _ us hl => match us, hl with | [_], _ => rfl) (fun d0 => ?_)
    (case a => k_is); (case l => k_is); (case c => k_is); (case k => k_is)
    refine' Tw.with_def (x := "is_row") (st := K43.sRow) (ps := ["value"]) KX G ?a ?l ?c ?k (fun _ _ _ _ _ _ us hl => match us, hl with | [_], _ => rfl) (fun d1 => ?_)
    (case a => k_is); (case l => k_is); (case c => k_is); (case k => k_is)
    refine' Tw.with_def (x := "is_poly") (st := K43.sPoly) (ps := ["value"]) KX G ?a ?l ?c ?k (fun _ _ _ _ _ _ us hl => match us, hl with | [_], _ => rfl) (fun d2 => ?_)
    (case a => k_is); (case l => k_is); (case c => k_is); (case k => k_is)
    refine' Tw.with_def (x := "width_in_x") (st := K43.sWidth) (ps := ["poly"]) KX G ?a ?l ?c ?k (fun _ _ _ _ _ _ us hl => match us, hl with | [_], _ => rfl) (fun d3 => ?_)
    (case a => k_is); (case l => k_is); (case c => k_is); (case k => k_is)
    refine' Tw.with_def (x := "letters_of") (st := K43.sLettersOf) (ps := ["poly"]) KX G ?a ?l ?c ?k (fun _ _ _ _ _ _ us hl => match us, hl with | [_], _ => rfl) (fun d4 => ?_)
    (case a => k_is); (case l => k_is); (case c => k_is); (case k => k_is)
    refine' Tw.with_def (x := "free_in") (st := K43.sFreeIn) (ps := ["saying"]) KX G ?a ?l ?c ?k (fun _ _ _ _ _ _ us hl => match us, hl with | [_], _ => rfl) (fun d5 => ?_)
    (case a => k_is); (case l => k_is); (case c => k_is); (case k => k_is)
    refine' Tw.with_def (x := "depth_in") (st := K43.sDepthIn) (ps := ["saying"]) KX G ?a ?l ?c ?k (fun _ _ _ _ _ _ us hl => match us, hl with | [_], _ => rfl) (fun d6 => ?_)
    (case a => k_is); (case l => k_is); (case c => k_is); (case k => k_is)
    refine' Tw.with_def (x := "is_small_poly") (st := K43.sSmall) (ps := ["value"]) KX G ?a ?l ?c ?k (fun _ _ _ _ _ _ us hl => match us, hl with | [_], _ => rfl) (fun d7 => ?_)
    (case a => k_is); (case l => k_is); (case c => k_is); (case k => k_is)
    refine' Tw.with_def (x := "is_letter") (st := K43.sIsLetter) (ps := ["value"]) KX G ?a ?l ?c ?k (fun _ _ _ _ _ _ us hl => match us, hl with | [_], _ => rfl) (fun d8 => ?_)
    (case a => k_is); (case l => k_is); (case c => k_is); (case k => k_is)
    refine' Tw.with_def (x := "does_fit") (st := K43.sFit) (ps := ["value", "deep", "found"]) KX G ?a ?l ?c ?k (fun _ _ _ _ _ _ us hl => match us, hl with | [_, _, _], _ => rfl) (fun d9 => ?_)
    (case a => k_is); (case l => k_is); (case c => k_is); (case k => k_is)
    refine' Tw.with_def (x := "unlike_polys") (st := K43.sUnlike) (ps := ["saying"]) KX G ?a ?l ?c ?k (fun _ _ _ _ _ _ us hl => match us, hl with | [_], _ => rfl) (fun d10 => ?_)
    (case a => k_is); (case l => k_is); (case c => k_is); (case k => k_is)
    refine' Tw.with_def (x := "check_saying") (st := K43.sCheck) (ps := ["saying"]) KX G ?a ?l ?c ?k (fun _ _ _ _ _ _ us hl => match us, hl with | [_], _ => rfl) (fun d11 => ?_)
    (case a => k_is); (case l => k_is); (case c => k_is); (case k => k_is)
    refine' Tw.with_def (x := "is_saying") (st := K43.sIsSaying) (ps := ["value"]) KX G ?a ?l ?c ?k (fun _ _ _ _ _ _ us hl => match us, hl with | [_], _ => rfl) (fun d12 => ?_)
    (case a => k_is); (case l => k_is); (case c => k_is); (case k => k_is)
    refine' Tw.with_def (x := "depth_of") (st := K43.sDepthOf) (ps := ["saying"]) KX G ?a ?l ?c ?k (fun _ _ _ _ _ _ us hl => match us, hl with | [_], _ => rfl) (fun d13 => ?_)
    (case a => k_is); (case l => k_is); (case c => k_is); (case k => k_is)
    refine' Tw.with_def (x := "polys_of") (st := K43.sPolysOf) (ps := ["saying"]) KX G ?a ?l ?c ?k (fun _ _ _ _ _ _ us hl => match us, hl with | [_], _ => rfl) (fun d14 => ?_)
    (case a => k_is); (case l => k_is); (case c => k_is); (case k => k_is)
    refine' Tw.with_def (x := "free_letters") (st := K43.sFreeLetters) (ps := ["saying"]) KX G ?a ?l ?c ?k (fun _ _ _ _ _ _ us hl => match us, hl with | [_], _ => rfl) (fun d15 => ?_)
    (case a => k_is); (case l => k_is); (case c => k_is); (case k => k_is)
    refine' Tw.with_def (x := "_law_well") (st := K43.sWell) (ps := ["_law_script", "_law_at"]) KX G ?a ?l ?c ?k (fun _ _ _ _ _ _ us hl => match us, hl with | [_, _], _ => rfl) (fun d16 => ?_)
    (case a => k_is); (case l => k_is); (case c => k_is); (case k => k_is)
    refine' Tw.with_def (x := "_law_draw") (st := K43.sDraw) (ps := ["_law_well_here", "_law_many"]) KX G ?a ?l ?c ?k (fun _ _ _ _ _ _ us hl => match us, hl with | [_, _], _ => rfl) (fun d17 => ?_)
    (case a => k_is); (case l => k_is); (case c => k_is); (case k => k_is)
    refine' Tw.with_def (x := "_law_pick") (st := K43.sPick) (ps := ["_law_well_here", "_law_some"]) KX G ?a ?l ?c ?k (fun _ _ _ _ _ _ us hl => match us, hl with | [_, _], _ => rfl) (fun d18 => ?_)
    (case a => k_is); (case l => k_is); (case c => k_is); (case k => k_is)
    refine' Tw.with_def (x := "_law_row") (st := K43.sLRow) (ps := ["_law_some"]) KX G ?a ?l ?c ?k (fun _ _ _ _ _ _ us hl => match us, hl with | [_], _ => rfl) (fun d19 => ?_)
    (case a => k_is); (case l => k_is); (case c => k_is); (case k => k_is)
    refine' Tw.with_def (x := "_law_number") (st := K43.sNumber) (ps := ["_law_well_here"]) KX G ?a ?l ?c ?k (fun _ _ _ _ _ _ us hl => match us, hl with | [_], _ => rfl) (fun d20 => ?_)
    (case a => k_is); (case l => k_is); (case c => k_is); (case k => k_is)
    refine' Tw.with_def (x := "_law_poly") (st := K43.sLPoly) (ps := ["_law_well_here"]) KX G ?a ?l ?c ?k (fun _ _ _ _ _ _ us hl => match us, hl with | [_], _ => rfl) (fun d21 => ?_)
    (case a => k_is); (case l => k_is); (case c => k_is); (case k => k_is)
    refine' Tw.with_def (x := "_law_leaf") (st := K43.sLeaf) (ps := ["_law_well_here", "_law_some", "_law_count"]) KX G ?a ?l ?c ?k (fun _ _ _ _ _ _ us hl => match us, hl with | [_, _, _], _ => rfl) (fun d22 => ?_)
    (case a => k_is); (case l => k_is); (case c => k_is); (case k => k_is)
    refine' Tw.with_def (x := "_law_made") (st := K43.sMade) (ps := ["_law_well_here", "_law_some", "_law_count", "_law_deep_here", "_law_is_full"]) KX G ?a ?l ?c ?k (fun _ _ _ _ _ _ us hl => match us, hl with | [_, _, _, _, _], _ => rfl) (fun d23 => ?_)
    (case a => k_is); (case l => k_is); (case c => k_is); (case k => k_is)
    refine' Tw.with_def (x := "_law_changed") (st := K43.sChanged) (ps := ["_law_well_here", "_law_thing"]) KX G ?a ?l ?c ?k (fun _ _ _ _ _ _ us hl => match us, hl with | [_, _], _ => rfl) (fun d24 => ?_)
    (case a => k_is); (case l => k_is); (case c => k_is); (case k => k_is)
    refine' Tw.with_def (x := "_law_is_row") (st := K43.sIsRow) (ps := ["_law_thing"]) KX G ?a ?l ?c ?k (fun _ _ _ _ _ _ us hl => match us, hl with | [_], _ => rfl) (fun d25 => ?_)
    (case a => k_is); (case l => k_is); (case c => k_is); (case k => k_is)
    refine' Tw.with_def (x := "_law_is_poly") (st := K43.sIsPoly) (ps := ["_law_thing"]) KX G ?a ?l ?c ?k (fun _ _ _ _ _ _ us hl => match us, hl with | [_], _ => rfl) (fun d26 => ?_)
    (case a => k_is); (case l => k_is); (case c => k_is); (case k => k_is)
    refine' Tw.with_def (x := "_law_deep") (st := K43.sDeep) (ps := ["_law_thing"]) KX G ?a ?l ?c ?k (fun _ _ _ _ _ _ us hl => match us, hl with | [_], _ => rfl) (fun d27 => ?_)
    (case a => k_is); (case l => k_is); (case c => k_is); (case k => k_is)
    refine' Tw.with_def (x := "_law_polys") (st := K43.sPolys) (ps := ["_law_said"]) KX G ?a ?l ?c ?k (fun _ _ _ _ _ _ us hl => match us, hl with | [_], _ => rfl) (fun d28 => ?_)
    (case a => k_is); (case l => k_is); (case c => k_is); (case k => k_is)
    refine' Tw.with_def (x := "_law_free") (st := K43.sFree) (ps := ["_law_said", "_law_letter"]) KX G ?a ?l ?c ?k (fun _ _ _ _ _ _ us hl => match us, hl with | [_, _], _ => rfl) (fun d29 => ?_)
    (case a => k_is); (case l => k_is); (case c => k_is); (case k => k_is)
    refine' Tw.with_def (x := "_law_is_right") (st := K43.sIsRight) (ps := ["_law_thing"]) KX G ?a ?l ?c ?k (fun _ _ _ _ _ _ us hl => match us, hl with | [_], _ => rfl) (fun d30 => ?_)
    (case a => k_is); (case l => k_is); (case c => k_is); (case k => k_is)
    refine' Tw.with_def (x := "_law_right") (st := K43.sRight) (ps := ["_law_well_here"]) KX G ?a ?l ?c ?k (fun _ _ _ _ _ _ us hl => match us, hl with | [_], _ => rfl) (fun d31 => ?_)
    (case a => k_is); (case l => k_is); (case c => k_is); (case k => k_is)
    refine' Tw.with_def (x := "law") (st := K43.sLaw) (ps := ["_law_script"]) KX G ?a ?l ?c ?k (fun _ _ _ _ _ _ us hl => match us, hl with | [_], _ => rfl) (fun d32 => ?_)
    (case a => k_is); (case l => k_is); (case c => k_is); (case k => k_is)
    refine' Tw.with_no (x := "isinstance") KX G ?z (fun z0 => ?_)
    (case z => k_is)
    refine' Tw.with_no (x := "int") KX G ?z (fun z1 => ?_)
    (case z => k_is)
    refine' Tw.with_no (x := "bool") KX G ?z (fun z2 => ?_)
    (case z => k_is)
    refine' Tw.with_no (x := "str") KX G ?z (fun z3 => ?_)
    (case z => k_is)
    refine' Tw.with_no (x := "tuple") KX G ?z (fun z4 => ?_)
    (case z => k_is)
    refine' Tw.with_no (x := "all") KX G ?z (fun z5 => ?_)
    (case z => k_is)
    refine' Tw.with_no (x := "any") KX G ?z (fun z6 => ?_)
    (case z => k_is)
    refine' Tw.with_no (x := "len") KX G ?z (fun z7 => ?_)
    (case z => k_is)
    refine' Tw.with_no (x := "list") KX G ?z (fun z8 => ?_)
    (case z => k_is)
    refine' Tw.with_no (x := "divmod") KX G ?z (fun z9 => ?_)
    (case z => k_is)
    refine' Tw.with_no (x := "range") KX G ?z (fun z10 => ?_)
    (case z => k_is)
    refine' Tw.with_no (x := "max") KX G ?z (fun z11 => ?_)
    (case z => k_is)
    refine' Tw.with_no (x := "min") KX G ?z (fun z12 => ?_)
    (case z => k_is)
    refine' Tw.with_no (x := "abs") KX G ?z (fun z13 => ?_)
    (case z => k_is)
    refine' Tw.with_no (x := "repr") KX G ?z (fun z14 => ?_)
    (case z => k_is)
    exact Tw.end_law d32 hmg (fun base => K43.whole ⟨z0, z1, z2, z3, z4, z5, z6, z7, z8, z9, z10, z11, z12, z13, z14⟩ ⟨s_ltr, s_rel, s_dee, s_mun, s_mdg⟩ d0 d1 d2 d3 d4 d5 d6 d7 d8 d9 d10 d11 d12 d13 d14 d15 d16 d17 d18 d19 d20 d21 d22 d23 d24 d25 d26 d27 d28 d29 d30 d31 d32 base) (fun _ _ _ _ _ _ _ => rfl)
