import PyProof.Rows.All
import Wide.All
import OpenK.AllK
import Wide.FinOn
import HandS.ForMost
import HandS.IsInst
import HandS.TupAny
import HandS.Flow
import HandS.Evl
import HandS.TupMul
import HandS.SortKw
import HandS.WideBits
import HandS.Gcd
import HandS.Rev
import HandS.Style
import KE.DataMinMax
import KE.GoesMore
import PyProof.Draws
import HandS.Dict
import HandS.TupLen
import KE.KDictKeyed
import KE.KDictCopyH
import KE.KDictList
import HandS.Deep
import HandS.More
import PyProof.ReprBulk
import HandS.Wide
import HandS.Strs
import PyProof.CallFns
import PyProof.ReprRoads
import PySem.Challenge.RW_twoletters_k44_whole_exchanged_put_and_p
set_option Elab.async false
set_option linter.all false
set_option maxRecDepth 100000
set_option maxHeartbeats 4000000
/-! a def's promise where no container is being written out (for repr) -/
namespace Tw
open PySem PySem.Spec PyProof.Rows L2

/-- nothing is being written out around here -/
abbrev Qt (A : Around) : Prop := A.guards = some []

structure FnG (P : Program) (w : World) (K : PySem.W.Frag) (mg : Str → Option Value) (base : Heap) (k : Nat) (f : Addr)
    (fd : FuncData) (ps : List Str) (sp : Sp) : Prop where
  many : ∀ vs H Q E, sp vs H Q E → vs.length = ps.length
  goes : ∀ (A : Around) (out : List Env) (s : Shared) (H : Hp) (g : Args) (us : List Value) (vs : List V) (Q : VK) (E : XK),
    Qt A → Room k A → Env0 P w K mg base A out s H → BindsTo s fd g (ps.zip us) → Vals vs us → sp vs H Q E →
    codeAny (model P w) A (.call (.ref f) g) (CR CX0 out P w H s Q E) s

section
variable {P : Program} {w : World} {K : PySem.W.Frag} {mg : Str → Option Value} {base : Heap} {k j : Nat} {f : Addr}
  {fd : FuncData} {ps : List Str} {sp : Sp}
theorem FnG.of (F : FnOk P w K mg base CX0 k f fd ps sp) : FnG P w K mg base k f fd ps sp :=
  ⟨F.len, fun A out s H g us vs Q E _ hr => F.run A out s H g us vs Q E hr⟩
theorem FnG.up (F : FnG P w K mg base j f fd ps sp) (h : j ≤ k) : FnG P w K mg base k f fd ps sp :=
  ⟨F.many, fun A out s H g us vs Q E hq hr => F.goes A out s H g us vs Q E hq (hr.mono h)⟩
theorem FnG.imp {sp' : Sp} (F : FnG P w K mg base k f fd ps sp) (h : ∀ vs H Q E, sp' vs H Q E → sp vs H Q E) :
    FnG P w K mg base k f fd ps sp' :=
  ⟨fun vs H Q E q => F.many vs H Q E (h _ _ _ _ q),
   fun A out s H g us vs Q E hq hr he hb hv hs => F.goes A out s H g us vs Q E hq hr he hb hv (h _ _ _ _ hs)⟩

/-- a def by its body, the place where it runs being quiet -/
theorem Fun.okG {x qual : Str} {st : Stmt} {N : List Str} (F : Fun K x qual st f fd) (S : FnScope N ps (defScope st))
    (many : ∀ vs H Q E, sp vs H Q E → vs.length = ps.length)
    (hbody : ∀ (cdv : Value) (A : Around) (out : List Env) (s : Shared) (H : Hp) (vs : List V) (Q : VK) (E : XK),
      Qt (A.deeper (envOfC qual (defScope st) s.heap.objs.size f cdv)) →
      Room k (A.deeper (envOfC qual (defScope st) s.heap.objs.size f cdv)) → sp vs H Q E →
      ∃ t, PSs (cxOf CX0 P w K mg base N qual (defScope st) f cdv A out s H E).nox (defBody st) t ∧
        t { nx := fun _ H' => Q .non H', rt := Q } (start N vs) H) : FnG P w K mg base (k + 1) f fd ps sp := by
  obtain ⟨oc, od, kV, doc, pm, an, cdv, ct, osl, rfl, lk, hcd⟩ := F.ex
  refine ⟨many, fun A out s H g us vs Q E hq hr e0 hb r hsp => ?_⟩
  have hlen : vs.length = ps.length := many _ _ _ _ hsp
  have inS : ∀ b o, base.get? b = some o → s.heap.get? b = some o := fun b o e => (e0.bs b o e).1
  have kx : K.In s.heap := e0.mod.kin.keeps inS
  have nolim : s.heap.NoLimit := e0.mod.nolimit.keeps inS
  have kinds : ∀ y ∈ ps.zip us, (defScope st).names.lookup y.1 = some .local ∨
      ((defScope st).names.lookup y.1 = some .cell ∧
        ((cellsFrom (s.heap.objs.size + 1) (defScope st).names []).lookup y.1).isSome = true) := by
    rintro ⟨n, v⟩ hy
    cases S.par n (List.of_mem_zip hy).1 with
    | inl q => exact Or.inl q
    | inr q => exact Or.inr ⟨q, PySem.W.cellsFrom_some _ _ _ (Or.inl q)⟩
  have rec1 := PySem.W.codeRec_of kx hcd
  refine codeAny_call_function hr.depth (kx _ _ lk) rfl S.co S.gen rfl rec1 (hb _ _ _ _ ?_)
  refine wpAny_newFunctionEnv_cells S.kind kinds fun env he s1 x => ?_
  subst he
  refine ⟨nolim.keeps x.toInCall.keep, codeAny_func ?_⟩
  have hq' : Qt (A.deeper (envOfC qual (defScope st) s.heap.objs.size f cdv)) := hq
  obtain ⟨t, ht, hw⟩ := hbody cdv A out s H vs Q E hq' (hr.deeper _) hsp
  have I := inv_start (CX := CX0) (cd := cdv) (E := E) (f := f) (qual := qual) S hr.hd e0 hlen r x
  refine wpAny_mono (ht.nox.run [] s1 (start N vs) H _ I hw) (fun fl s' hs => ?_) fun e s' hs => hs
  cases fl with
  | ret u => obtain ⟨v, σ', H', J, rv, q⟩ := hs; exact ⟨v, H', J.os, J.bare, J.base, J.hok, rv, q⟩
  | next => obtain ⟨σ', H', J, q⟩ := hs; exact ⟨V.non, H', J.os, J.bare, J.base, J.hok, rfl, q⟩
  | brk => obtain ⟨_, _, _, q⟩ := hs; exact q.elim
  | cont => obtain ⟨_, _, _, q⟩ := hs; exact q.elim
end

section
variable {X : Cx} {k : Nat} {f : Addr} {fd : FuncData} {ps : List Str} {sp : Sp} {x : Str} {p pos : Pos} {e : Expr}
  {es : List Expr} {t : TA}
/-- f(e, ..), f a def that wants quiet -/
theorem pe_callG (F : FnG X.prog X.w X.K X.mg X.base k f fd ps sp) (hq : Qt X.A) (hr : Room k X.A) (hg : Gl X x)
    (hm : X.mg x = some (.ref f)) (hk : PySem.W.keepIn X.K (.ref f) = true) (hb : Binds X.K fd ps [])
    (ha : PA X (e :: es) t) (hdb : (x == ("__debug__" : Str)) = false := by decide)
    (he : starEach (e :: es) X.env = (false, eval e X.env) :: starEach es X.env := by rfl)
    (hpl : (backTo pos (starEach es X.env)).any (·.1) = false := by rfl) :
    PE X (.Call (.Name x p) (e :: es) [] pos) (tCall sp [] E0 t) := by
  refine ⟨fun pins s σ H Q I h => wpAny_Call_Name_kw (ld_glob I hg hm ?_ hdb)⟩
  refine PySem.W.callWith_K (h₀ := X.base) I.ok.mod.kin hk ?_ he hpl
  refine thn (ha.run pos pins s σ H _ I h) ?_
  rintro us s1 ⟨vs, H1, I1, r, q⟩
  refine ⟨I1.kIn, wpAny_call ?_⟩
  have q' : sp vs H1 Q E0 := by simpa using q
  have hl : us.length = ps.length := by rw [← Vals.length r]; exact F.many _ _ _ _ q'
  have b := hb s1 us I1.kIn (by simpa using hl)
  rw [List.append_nil] at b
  refine codeAny_mono (F.goes X.A X.stack s1 H1 ⟨us, []⟩ us vs Q E0 hq hr I1.env0 b r q') fun r s' hh => ?_
  cases r with
  | error z => exact False.elim hh
  | ok fl =>
    cases fl with
    | ret u => exact I1.after hh
    | next => exact False.elim hh
    | brk => exact False.elim hh
    | cont => exact False.elim hh
end
end Tw

set_option Elab.async false
set_option linter.all false
set_option maxRecDepth 100000
set_option maxHeartbeats 4000000
/-! the end of a law whose def wants quiet -/
namespace Tw
open PySem PySem.Spec PyProof.Rows L2

/-- a promise wide enough that says nothing of exceptions, over a heap in which the script alone may be known -/
theorem law_quiet {P : Program} {w : World} {K : PySem.W.Frag} {mg mb : Str → Option Value} {k : Nat} {fa a : Addr} {fd : FuncData}
    {x : Str} {sp : Sp} {s₁ : Shared} {vs : List Value} {ns : List Int} (KX : K.In s₁.heap) (hns : s₁.heap.Ns mainGlobals mg)
    (hb : s₁.heap.Ns builtinsNs mb) (hbb : ∀ x : Str, x ≠ "__name__" → mb x = bootBuiltins x) (hlim : s₁.heap.NoLimit)
    (hg : s₁.gens = #[]) (ha : s₁.heap.get? a = some { cls := .type "list", data := .seq vs.toArray }) (hi : IntsAre vs ns)
    (hl : ns.length ≤ sizeLine) (hr : Room k callerA)
    (F : ∀ base : Heap, K.In base → base.Ns mainGlobals mg → FnG P w K mg base k fa fd [x] sp)
    (hbind : ∀ (s : Shared) (u : Value), BindsTo s fd ⟨[u], []⟩ [(x, u)])
    (hsp : ∀ H : Hp, Only H → SqL K H a (ns.map V.int) → sp [.ref a] H (fun v _ => v = .bl true) E0) :
    codeAny (model P w) callerA (.call (.ref fa) ⟨[.ref a], []⟩)
      (fun r s' => r = .ok (.ret (.bool true)) ∧ OldK s₁.heap s'.heap ∧ s'.os = s₁.os ∧ AllBare s'.gens) s₁ := by
  have hv := vals_ints hi
  have hn := hi.length
  have main : ∀ H : Hp, Only H → SqL K H a (ns.map V.int) → HOk P w H s₁.heap → (∀ b u, H b = some u → b = a ∧ K.lookup a = none) →
      codeAny (model P w) callerA (.call (.ref fa) ⟨[.ref a], []⟩)
        (fun r s' => r = .ok (.ret (.bool true)) ∧ OldK s₁.heap s'.heap ∧ s'.os = s₁.os ∧ AllBare s'.gens) s₁ := by
    intro H hO hS hok hA
    have dictFree : ∀ {b : Addr} {o : Obj} {es : Array DictEntry} {ep : Nat},
        s₁.heap.get? b = some o → o.data = .dict es ep → H b = none := by
      intro b o es ep e d
      cases q : H b with
      | none => rfl
      | some u =>
        obtain ⟨e1, _⟩ := hA b u q
        rw [e1, ha] at e
        injection e with e
        rw [← e] at d
        exact absurd d (by intro z; cases z)
    have nsB : ∀ {b : Addr} {m : Str → Option Value}, s₁.heap.Ns b m → (hidT s₁.heap H).Ns b m := by
      rintro b m ⟨o, es, ep, e, d, r⟩
      exact ⟨o, es, ep, hidT_get e (dictFree e d), d, r⟩
    have kB : K.In (hidT s₁.heap H) := by
      intro b o e
      refine hidT_get (KX b o e) ?_
      cases q : H b with
      | none => rfl
      | some u =>
        obtain ⟨e1, e2⟩ := hA b u q
        rw [e1, e2] at e
        cases e
    have hM : Mod K mg (hidT s₁.heap H) := by
      obtain ⟨mc, l1, l2⟩ := hlim
      exact ⟨kB, nsB hns, ⟨mb, nsB hb, hbb⟩, ⟨mc, nsB l1, l2⟩⟩
    have noB : ∀ b : Addr, b ∈ frs ([] : List Env) → False := fun b z => by simp [frs] at z
    have e0 : Env0 P w K mg (hidT s₁.heap H) callerA [] s₁ H :=
      ⟨rfl, hM, fun b o e => of_hidT e, Nat.le_of_eq (hidT_size _ _), trivial, fun b z => (noB b z).elim, hok, .of_eq hg⟩
    have go := (F _ kB (nsB hns)).goes callerA [] s₁ H ⟨[.ref a], []⟩ [.ref a] [.ref a] (fun v _ => v = .bl true) E0 rfl hr e0
      (hbind s₁ (.ref a)) (.cons rfl .nil) (hsp H hO hS)
    refine codeAny_mono go fun r s' h => ?_
    cases r with
    | error e => exact False.elim h
    | ok fl =>
      cases fl with
      | next => exact False.elim h
      | brk => exact False.elim h
      | cont => exact False.elim h
      | ret u =>
        obtain ⟨v, H', os, bare, un, hok', rv, q⟩ := h
        subst q
        cases (show u = Value.bool true from rv)
        refine ⟨rfl, OldK.of_keep fun b o e => ?_, os, bare⟩
        cases q : H b with
        | none => exact un.keep b o e q (fun z => noB b z) (by simp)
        | some u =>
          cases hO b with
          | inl z => rw [q] at z; cases z
          | inr z =>
            obtain ⟨ob, xs, z⟩ := z
            have f1 := (hok b _ z).1
            have f2 := (hok' b _ (un.frzs b ob _ z)).1
            rw [e] at f1
            rw [f2, ← f1]
  cases hk : K.lookup a with
  | some o =>
    have e := KX a o hk
    rw [ha] at e
    injection e with e
    subst e
    refine main (fun _ => none) (fun _ => Or.inl rfl) (Or.inr ⟨_, vs.toArray, _, hk, rfl, rfl, rfl, ?_, by simpa using hv⟩) ?_ ?_
    · rw [List.size_toArray, hn]; exact hl
    · intro b u z; exact absurd z (by intro y; cases y)
    · intro b u z; exact absurd z (by intro y; cases y)
  | none =>
    let Ha : Hp := fun b => if b = a then some (.frz { cls := .type "list", data := .seq vs.toArray } (.lst (ns.map V.int))) else none
    have ya : ∀ b, b = a → Ha b = some (.frz { cls := .type "list", data := .seq vs.toArray } (.lst (ns.map V.int))) := fun b h => if_pos h
    have na : ∀ b, b ≠ a → Ha b = none := fun b h => if_neg h
    refine main Ha (fun b => ?_) (Or.inl (Or.inr ⟨_, ya a rfl⟩)) (fun b u z => ?_) (fun b u z => ?_)
    · by_cases h : b = a
      · exact Or.inr ⟨_, _, ya b h⟩
      · exact Or.inl (na b h)
    · by_cases h : b = a
      · rw [ya b h] at z
        injection z with z
        subst z h
        exact ⟨ha, by rw [List.length_map]; exact hl, vs, _, hv, ha⟩
      · rw [na b h] at z; cases z
    · by_cases h : b = a
      · exact ⟨h, hk⟩
      · rw [na b h] at z; cases z

theorem walk_quiet {l : PySem.W.OpenLaw} {n k : Nat} {q : Program} {loose : List Str} {XP : (Str → Option Value) → Heap → Prop}
    {YP : World → Heap → Prop} {d : DefRec} {K : Params → PySem.W.Frag} {sp : PySem.W.Frag → Sp} {x : Str} (hn : l.most = some n)
    (hn2 : n ≤ sizeLine) (hdf : d.params.defaults = []) (hr : Room k callerA)
    (hY : ∀ (w : World) (h : Heap), YP w h → (K w.params).In h)
    (F : ∀ (w : World) (mg : Str → Option Value) (fa : Addr) (h : Heap), (K w.params).In h → h.Ns mainGlobals mg →
      mg d.name = some (.ref fa) → ∃ fd : FuncData, (∀ (s : Shared) (u : Value), BindsTo s fd ⟨[u], []⟩ [(x, u)]) ∧
        ∀ base : Heap, (K w.params).In base → base.Ns mainGlobals mg → FnG l.prog w (K w.params) mg base k fa fd [x] (sp (K w.params)))
    (hsp : ∀ (K : PySem.W.Frag) (H : Hp) (a : Addr) (ns : List Int), ns.length ≤ n → Only H → SqL K H a (ns.map V.int) →
      sp K [.ref a] H (fun v _ => v = .bl true) E0) :
    PySem.W.WalkO q loose XP YP l.row.toRowW d [] (fun f vs => PySem.call f vs) := by
  refine Att.attach_call hn hdf ?_
  intro w s₀ s₁ mg mb fa o pm cd doc a vs ns G Y ho hd hcd hmg hobj hints hlen hg
  have kx := hY w _ Y
  obtain ⟨fd, hb, hF⟩ := F w mg fa _ kx G.T.g hmg
  exact law_quiet kx G.T.g G.T.b G.T.builtins G.T.nolimit hg hobj hints (Nat.le_trans hlen hn2) hr hF hb
    fun H hO hS => hsp _ H a ns hlen hO hS
end Tw

set_option Elab.async false
set_option linter.all false
set_option maxRecDepth 100000
set_option maxHeartbeats 4000000
/-! data: what a value is, over the heap; the well at a -/
namespace Tw
open PySem PySem.Spec PyProof.Rows L2

/-- all that was known is known, but for what stands at a -/
def Kp (a : Addr) (H H' : Hp) : Prop := ∀ b o, b ≠ a → H b = some o → H' b = some o
/-- the well: a list of three ints -/
def We (a : Addr) (H : Hp) : Prop := ∃ x y z : Int, H a = some (.lst [.int x, .int y, .int z])
theorem Kp.refl (a : Addr) (H : Hp) : Kp a H H := fun _ _ _ h => h
theorem Kp.trans {a : Addr} {H H1 H2 : Hp} (x : Kp a H H1) (y : Kp a H1 H2) : Kp a H H2 := fun b o n h => y b o n (x b o n h)
theorem Kp.of {a : Addr} {H H' : Hp} (x : Same H H') : Kp a H H' := fun b o _ h => x b o h
theorem We.to {a : Addr} {H H' : Hp} (x : Same H H') (w : We a H) : We a H' := by
  obtain ⟨i, j, k, h⟩ := w
  exact ⟨i, j, k, x _ _ h⟩
theorem We.ne {a p : Addr} {H : Hp} (w : We a H) (h : H p = none) : p ≠ a := by
  obtain ⟨i, j, k, e⟩ := w
  exact fun z => by rw [z, e] at h; cases h
theorem We.some {a : Addr} {H : Hp} (w : We a H) : H a ≠ none := by
  obtain ⟨i, j, k, e⟩ := w
  rw [e]
  exact fun z => by cases z
theorem same_new {H : Hp} {p : Addr} {o : HO} (h : H p = none) : Same H (upd H p o) := fun b u e => by
  rw [upd_ne (ne_of_none e h)]; exact e
theorem kp_new {a : Addr} {H : Hp} {p : Addr} {o : HO} (h : H p = none) : Kp a H (upd H p o) := Kp.of (same_new h)
theorem we_new {a : Addr} {H : Hp} {p : Addr} {o : HO} (w : We a H) (h : H p = none) : We a (upd H p o) := w.to (same_new h)
theorem sz {n : Nat} (h : n ≤ 100000) : n ≤ sizeLine := Nat.le_trans h (by decide)

mutual
/-- the value is the datum; nothing of it is the well -/
inductive Da (a : Addr) (H : Hp) : V → PyData → Prop
  | non : Da a H .non .none
  | bl (b : Bool) : Da a H (.bl b) (.bool b)
  | int (i : Int) : Da a H (.int i) (.int i)
  | str (x : Str) : Da a H (.str x) (.str x)
  | lst {p : Addr} {xs : List V} {ds : List PyData} : p ≠ a → H p = some (.lst xs) → DaAll a H xs ds → Da a H (.ref p) (.list ds)
  | tup {p : Addr} {xs : List V} {ds : List PyData} : p ≠ a → H p = some (.tup xs) → DaAll a H xs ds → Da a H (.ref p) (.tuple ds)
  | dct {p : Addr} : p ≠ a → H p = some (.dK []) → Da a H (.ref p) (.dict [])
inductive DaAll (a : Addr) (H : Hp) : List V → List PyData → Prop
  | nil : DaAll a H [] []
  | cons {v : V} {vs : List V} {d : PyData} {ds : List PyData} : Da a H v d → DaAll a H vs ds → DaAll a H (v :: vs) (d :: ds)
end
section
variable {a : Addr} {H H' : Hp}
mutual
theorem Da.kp (k : Kp a H H') : ∀ {v : V} {d : PyData}, Da a H v d → Da a H' v d
  | _, _, .non => .non
  | _, _, .bl b => .bl b
  | _, _, .int i => .int i
  | _, _, .str x => .str x
  | _, _, .lst n h t => .lst n (k _ _ n h) (DaAll.kp k t)
  | _, _, .tup n h t => .tup n (k _ _ n h) (DaAll.kp k t)
  | _, _, .dct n h => .dct n (k _ _ n h)
theorem DaAll.kp (k : Kp a H H') : ∀ {vs : List V} {ds : List PyData}, DaAll a H vs ds → DaAll a H' vs ds
  | _, _, .nil => .nil
  | _, _, .cons h t => .cons (Da.kp k h) (DaAll.kp k t)
end
theorem Da.same (s : Same H H') {v : V} {d : PyData} (h : Da a H v d) : Da a H' v d := h.kp (Kp.of s)
theorem DaAll.same (s : Same H H') {v : List V} {d : List PyData} (h : DaAll a H v d) : DaAll a H' v d := h.kp (Kp.of s)
theorem DaAll.len : ∀ {vs : List V} {ds : List PyData}, DaAll a H vs ds → vs.length = ds.length
  | _, _, .nil => rfl
  | _, _, .cons _ t => congrArg Nat.succ t.len
theorem DaAll.get : ∀ {vs : List V} {ds : List PyData} {i : Nat} {v : V}, DaAll a H vs ds → vs[i]? = some v → ∃ d, ds[i]? = some d ∧ Da a H v d
  | _, _, _, _, .nil, h => by simp at h
  | _, _, 0, _, .cons h _, e => by simp at e; subst e; exact ⟨_, rfl, h⟩
  | _, _, i + 1, _, .cons _ t, e => by
    obtain ⟨d, h1, h2⟩ := t.get (i := i) (by simpa using e)
    exact ⟨d, by simpa using h1, h2⟩
theorem DaAll.append : ∀ {vs ws : List V} {ds es : List PyData}, DaAll a H vs ds → DaAll a H ws es → DaAll a H (vs ++ ws) (ds ++ es)
  | _, _, _, _, .nil, t => t
  | _, _, _, _, .cons h t, u => .cons h (t.append u)
theorem DaAll.drop : ∀ {vs : List V} {ds : List PyData} (n : Nat), DaAll a H vs ds → DaAll a H (vs.drop n) (ds.drop n)
  | _, _, 0, h => h
  | _, _, _ + 1, .nil => .nil
  | _, _, n + 1, .cons _ t => t.drop n
theorem DaAll.take : ∀ {vs : List V} {ds : List PyData} (n : Nat), DaAll a H vs ds → DaAll a H (vs.take n) (ds.take n)
  | _, _, 0, _ => .nil
  | _, _, _ + 1, .nil => .nil
  | _, _, n + 1, .cons h t => .cons h (t.take n)
theorem DaAll.rev : ∀ {vs : List V} {ds : List PyData}, DaAll a H vs ds → DaAll a H vs.reverse ds.reverse
  | _, _, .nil => .nil
  | _, _, .cons h t => by
    rw [List.reverse_cons, List.reverse_cons]
    exact t.rev.append (.cons h .nil)
/-- a slice of the values, of the data -/
def cutD (ds : List PyData) (lo hi : Option Int) : List PyData := (ds.drop (HT.sIx ds.length 0 lo)).take (HT.sIx ds.length ds.length hi - HT.sIx ds.length 0 lo)
theorem DaAll.cut {vs : List V} {ds : List PyData} (lo hi : Option Int) (h : DaAll a H vs ds) : DaAll a H (cutV vs lo hi) (cutD ds lo hi) := by
  unfold cutV cutD
  rw [h.len]
  exact (h.drop _).take _

mutual
theorem Da.dp {K : PySem.W.Frag} : ∀ {v : V} {d : PyData}, Da a H v d → d.canLay0 = true → Dp K H v d
  | _, _, .non, _ => .non
  | _, _, .bl b, _ => .bl b
  | _, _, .int i, _ => .int i
  | _, _, .str x, _ => .str x
  | _, _, .lst n h t, c => .lst (SqL.of h) (DaAll.dp t (by simpa [PyData.canLay0] using c))
  | _, _, .tup n h t, c => .tup (SqT.of h) (DaAll.dp t (by simpa [PyData.canLay0] using c))
  | _, _, .dct n h, c => by simp [PyData.canLay0] at c
theorem DaAll.dp {K : PySem.W.Frag} : ∀ {vs : List V} {ds : List PyData}, DaAll a H vs ds → PyData.canLayAll0 ds = true → DpAll K H vs ds
  | _, _, .nil, _ => .nil
  | _, _, .cons (d := d) (ds := ds) h t, c => by
    have c' : d.canLay0 = true ∧ PyData.canLayAll0 ds = true := by simpa [PyData.canLayAll0] using c
    exact .cons (Da.dp h c'.1) (DaAll.dp t c'.2)
end
end

/-! ### written data -/
mutual
def litOf : Expr → Option PyData
  | .Constant c _ _ => match c with
    | .none => some .none
    | .bool b => some (.bool b)
    | .int i => some (.int i)
    | .str x => some (.str x)
    | _ => none
  | .UnaryOp .USub (.Constant (.int i) _ _) _ => some (.int (-i))
  | .BinOp (.Constant (.int i) _ _) .Pow (.Constant (.int j) _ _) _ => if 0 ≤ j ∧ j ≤ 1000 ∧ i.natAbs < 1000 then some (.int (i ^ j.toNat)) else none
  | .Tuple es _ _ => match litsOf es with
    | some ds => if ds.length ≤ 1000 then some (.tuple ds) else none
    | none => none
  | .List es _ => match litsOf es with
    | some ds => if ds.length ≤ 1000 then some (.list ds) else none
    | none => none
  | .Dict [] [] _ => some (.dict [])
  | _ => none
def litsOf : List Expr → Option (List PyData)
  | [] => some []
  | e :: es => match litOf e, litsOf es with
    | some d, some ds => some (d :: ds)
    | _, _ => none
end
theorem _root_.L2.PE.weak {X : Cx} {e : Expr} {t t' : TE} (h : PE X e t) (k : ∀ σ H Q, t' σ H Q → t σ H Q) : PE X e t' := ⟨fun p s σ H Q I q => h.run p s σ H Q I (k σ H Q q)⟩
theorem _root_.L2.PA.weak {X : Cx} {e : List Expr} {t t' : TA} (h : PA X e t) (k : ∀ σ H Q, t' σ H Q → t σ H Q) : PA X e t' := ⟨fun o p s σ H Q I q => h.run o p s σ H Q I (k σ H Q q)⟩
/-- a new datum; a is any known place -/
def tLit (d : PyData) : TE := fun _ H Q => ∃ a, H a ≠ none ∧ ∀ v H', Same H H' → Da a H' v d → Q v H'
def tLits (ds : List PyData) : TA := fun _ H Q => ∃ a, H a ≠ none ∧ ∀ vs H', Same H H' → DaAll a H' vs ds → Q vs H'
theorem same_some {H H' : Hp} {a : Addr} (s : Same H H') (h : H a ≠ none) : H' a ≠ none := by
  cases e : H a with
  | none => exact absurd e h
  | some o => rw [s a o e]; exact fun z => by cases z
theorem new_ne {H : Hp} {a p : Addr} (h : H a ≠ none) (n : H p = none) : p ≠ a := fun z => h (by rw [← z]; exact n)
theorem star_lit {e : Expr} {es : List Expr} {env : Env} {d : PyData} (h : litOf e = some d) : starEach (e :: es) env = (false, eval e env) :: starEach es env := by
  cases e <;> first | rfl | (simp [litOf] at h)
section
variable {X : Cx}
mutual
theorem pe_lit : ∀ (e : Expr) {d : PyData}, litOf e = some d → PE X e (tLit d)
  | .Constant .none _ _, _, h => by
    have e := Option.some.inj h; subst e
    exact pe_non.weak fun σ H Q ⟨a, _, q⟩ => q _ _ (Same.refl H) .non
  | .Constant (.bool b) _ _, _, h => by
    have e := Option.some.inj h; subst e
    exact pe_bl.weak fun σ H Q ⟨a, _, q⟩ => q _ _ (Same.refl H) (.bl b)
  | .Constant (.int i) _ _, _, h => by
    have e := Option.some.inj h; subst e
    exact pe_int.weak fun σ H Q ⟨a, _, q⟩ => q _ _ (Same.refl H) (.int i)
  | .Constant (.str x) _ _, _, h => by
    have e := Option.some.inj h; subst e
    exact pe_str.weak fun σ H Q ⟨a, _, q⟩ => q _ _ (Same.refl H) (.str x)
  | .UnaryOp .USub (.Constant (.int i) _ _) _, _, h => by
    have e := Option.some.inj h; subst e
    exact (pe_un un_neg pe_int).weak fun σ H Q ⟨a, _, q⟩ => ⟨i, rfl, q _ _ (Same.refl H) (.int (-i))⟩
  | .BinOp (.Constant (.int i) _ _) .Pow (.Constant (.int j) _ _) _, d, h => by
    simp only [litOf] at h
    split at h
    · rename_i c
      have e := Option.some.inj h; subst e
      refine (pe_op op_pow pe_int pe_int).weak fun σ H Q ⟨a, _, q⟩ => ⟨i, j, rfl, rfl, ⟨c.1, by have := c.2.1; omega, by have := c.2.2; omega⟩, q _ _ (Same.refl H) (.int _)⟩
    · cases h
  | .Tuple es _ _, d, h => by
    simp only [litOf] at h
    split at h
    · rename_i ds hd
      split at h
      · rename_i c
        have e := Option.some.inj h; subst e
        refine (pe_tup (pa_lits es hd)).weak fun σ H Q ⟨a, n, q⟩ => ⟨a, n, fun vs H1 s1 d1 => ⟨sz (by rw [d1.len]; omega), fun p hp => ?_⟩⟩
        have s2 := same_new (o := .tup vs) hp
        exact q _ _ (s1.trans s2) (.tup (new_ne (same_some s1 n) hp) upd_same (d1.same s2))
      · cases h
    · cases h
  | .List es _, d, h => by
    simp only [litOf] at h
    split at h
    · rename_i ds hd
      split at h
      · rename_i c
        have e := Option.some.inj h; subst e
        refine (pe_lst (pa_lits es hd)).weak fun σ H Q ⟨a, n, q⟩ => ⟨a, n, fun vs H1 s1 d1 => ⟨sz (by rw [d1.len]; omega), fun p hp => ?_⟩⟩
        have s2 := same_new (o := .lst vs) hp
        exact q _ _ (s1.trans s2) (.lst (new_ne (same_some s1 n) hp) upd_same (d1.same s2))
      · cases h
    · cases h
  | .Dict [] [] _, d, h => by
    have e := Option.some.inj h; subst e
    refine pe_dnewK.weak fun σ H Q ⟨a, n, q⟩ => fun p hp => ?_
    exact q _ _ (same_new hp) (.dct (new_ne n hp) upd_same)
theorem pa_lits : ∀ (es : List Expr) {ds : List PyData}, litsOf es = some ds → PA X es (tLits ds)
  | [], _, h => by
    have e := Option.some.inj h; subst e
    exact pa_nil.weak fun σ H Q ⟨a, _, q⟩ => q _ _ (Same.refl H) .nil
  | e :: es, ds, h => by
    simp only [litsOf] at h
    split at h
    · rename_i d ds' hd hds
      have z := Option.some.inj h; subst z
      refine (pa_cons (pe_lit e hd) (pa_lits es hds) (star_lit hd)).weak fun σ H Q ⟨a, n, q⟩ => ⟨a, n, fun v H1 s1 d1 => ⟨a, same_some s1 n, fun vs H2 s2 d2 => ?_⟩⟩
      exact q _ _ (s1.trans s2) (.cons (d1.same s2) d2)
    · cases h
end
end
end Tw

set_option Elab.async false
set_option linter.all false
set_option maxRecDepth 100000
set_option maxHeartbeats 4000000
/-! rules: texts of data, a tuple beside the empty one, a tuple turned round, kinds of data -/
namespace Tw
open PySem PySem.Spec PyProof.Rows L2
section
variable {X : Cx}

/-- repr of a list, a tuple -/
def rShow (K : PySem.W.Frag) : List V → Hp → VK → Prop := fun xs H Q =>
  ∃ p d, xs = [.ref p] ∧ Dp K H (.ref p) d ∧ SeqAt.shaped d = true ∧ d.showable = true ∧ d.shown.length ≤ sizeLine ∧ Q (.str d.shown) H
theorem noDict_of {d : PyData} (h : SeqAt.shaped d = true) : d.hasDict = false := by
  have c := SeqAt.canLay_of_shaped h
  exact PyData.hasDict_of_canLay d c
theorem call_show (hq : Qt X.A) (hu : X.A.units + 70 < cLine) : CallR X (.builtin "repr") (rShow X.K) := by
  intro pins s σ H xs us Q I r h
  obtain ⟨p, d, rfl, hd, hs, hw, hz, q⟩ := h
  obtain ⟨u, rfl, rx⟩ := vals1 r
  obtain ⟨as, rd⟩ := Dp.reads I d _ u hd rx
  cases rx
  have dp := SeqAt.depth_of_shaped hs
  refine repr_of_reads' rd hw (fun z => ?_) hq (by omega) (fun _ _ e => e) (fun h' t k keep => ?_) hz
  · rw [noDict_of hs] at z; cases z
  · exact ⟨.str d.shown, H, I.kept keep, ⟨_, rfl⟩, q⟩

/-- a tuple beside an empty one -/
def rT0 (ne : Bool) (K : PySem.W.Frag) : R2 := fun x y H Q =>
  ∃ a b xs ys, x = .ref a ∧ y = .ref b ∧ SqT K H a xs ∧ SqT K H b ys ∧ ys = [] ∧ Q (.bl (if ne then !xs.isEmpty else xs.isEmpty)) H
theorem t0_val {xs : List V} {its its2 : List Value} (r1 : Vals xs its) (r2 : Vals [] its2) :
    ((List.range (min its.toArray.size its2.toArray.size)).all (fun _ => true) && its.toArray.size == its2.toArray.size) = xs.isEmpty := by
  cases r2
  cases r1 with
  | nil => rfl
  | cons _ _ => simp
theorem op_eqT0 (hu : X.A.units + 64 < cLine) : OpR X (compareOp .Eq) (rT0 false X.K) := by
  intro pins s σ H x y v u Q I rx ry h
  obtain ⟨a, b, xs, ys, rfl, rfl, ha, hb, rfl, q⟩ := h
  cases rx
  cases ry
  obtain ⟨its, r1, p1, _⟩ := I.tuple ha
  obtain ⟨its2, r2, p2, _⟩ := I.tuple hb
  refine SeqAt.RcAt.tuples (e := fun _ => true) p1 p2 (by omega) (fun j h1 h2 => ?_) _ _ _ _ ⟨.bl xs.isEmpty, H, I, ?_, q⟩
  · cases r2
    exact absurd h2 (by simp)
  · show Value.bool _ = Value.bool _
    rw [t0_val r1 r2]
theorem op_neT0 (hu : X.A.units + 64 < cLine) : OpR X (compareOp .NotEq) (rT0 true X.K) := by
  intro pins s σ H x y v u Q I rx ry h
  obtain ⟨a, b, xs, ys, rfl, rfl, ha, hb, rfl, q⟩ := h
  cases rx
  cases ry
  obtain ⟨its, r1, p1, _⟩ := I.tuple ha
  obtain ⟨its2, r2, p2, _⟩ := I.tuple hb
  refine SeqAt.RcNeAt.tuples (e := fun _ => true) p1 p2 (by omega) (fun j h1 h2 => ?_) _ _ _ _ ⟨.bl (!xs.isEmpty), H, I, ?_, q⟩
  · cases r2
    exact absurd h2 (by simp)
  · show Value.bool _ = Value.bool _
    rw [t0_val r1 r2]

/-! ### t[::-1] -/
theorem applied_rev {prog : Program} {w : World} {A : Around} {E : Value → Shared → Prop} {s : Shared} {sl : Addr} {vl vu vs : Value} {n : Nat} {Q : Int × Int × Nat → Shared → Prop}
    (hs : s.heap.IsSliceOf sl vl vu vs) (pl : IsPart vl none) (pu : IsPart vu none) (pt : IsPart vs (some (-1))) (h : Q ((n : Int) - 1, -1, n) s) :
    wpAny (model prog w) A (Builtin.Slice.sliceApplied (.ref sl) (pure (n : Int))) Q E s := by
  obtain ⟨ob, e1, e2, e3⟩ := id hs
  unfold Builtin.Slice.sliceApplied Builtin.Slice.sliceFields
  refine wpAny_bind (wpAny_bind (wpAny_field e1 e3 (x := vl) rfl ?_))
  refine wpAny_bind (wpAny_field e1 e3 (x := vu) rfl ?_)
  refine wpAny_bind (wpAny_field e1 e3 (x := vs) rfl (wpAny_pure ?_))
  refine wpAny_bind (HT.slicePart_ pt ?_)
  show wpAny _ _ (if ((-1 : Int) == 0) = true then _ else _) _ _ s
  rw [if_neg (by decide)]
  refine wpAny_bind (HT.slicePart_ pl ?_)
  refine wpAny_bind (HT.slicePart_ pu (wpAny_bind (wpAny_pure (wpAny_pure ?_))))
  have ep : Builtin.Slice.slicePlaces ((n : Int) - 1) (-1) (-1) = n := by
    unfold Builtin.Slice.slicePlaces
    have c1 : ¬ ((-1 : Int) > 0) := by decide
    simp only [c1, if_false]
    by_cases c : (n : Int) - 1 > -1
    · simp only [c, if_true]
      have : ((n : Int) - 1 - -1 - 1) / (- -1) = (n : Int) - 1 := by
        rw [show (- -1 : Int) = 1 by decide, Int.ediv_one]; omega
      omega
    · simp only [c, if_false]
      omega
  show Q (_, (-1 : Int), Builtin.Slice.slicePlaces ((n : Int) - 1) (-1) (-1)) s
  rw [ep]
  exact h
theorem fm_congr {α β : Type} {f g : α → Option β} : ∀ (l : List α), (∀ k ∈ l, f k = g k) → l.filterMap f = l.filterMap g
  | [], _ => rfl
  | k :: l, h => by
    rw [List.filterMap_cons, List.filterMap_cons, h k (by simp), fm_congr l fun j hj => h j (by simp [hj])]
theorem pick_rev (xs : Array Value) : ((List.range xs.size).filterMap fun (k : Nat) => xs[(((xs.size : Int) - 1) + (k : Int) * (-1)).toNat]?).toArray = xs.toList.reverse.toArray := by
  congr 1
  have e : (List.range xs.size).filterMap (fun (k : Nat) => xs[(((xs.size : Int) - 1) + (k : Int) * (-1)).toNat]?) = ((List.range xs.size).map fun k => xs.size - 1 - k).filterMap (xs[·]?) := by
    rw [List.filterMap_map]
    refine fm_congr _ fun k hk => ?_
    have hlt := List.mem_range.mp hk
    have e : (((xs.size : Int) - 1) + (k : Int) * (-1)).toNat = xs.size - 1 - k := by omega
    show xs[(((xs.size : Int) - 1) + (k : Int) * (-1)).toNat]? = xs[xs.size - 1 - k]?
    rw [e]
  rw [e, PySem.W.krv_range, List.filterMap_reverse, PySem.W.krv_all]
theorem getItem_rev {prog : Program} {w : World} {A : Around} {E : Value → Shared → Prop} {s : Shared} {t sl : Addr} {items : Array Value} {vl vu vs : Value} {Q : Value → Shared → Prop}
    (ht : IsTup s.heap t items) (hs : s.heap.IsSliceOf sl vl vu vs) (pl : IsPart vl none) (pu : IsPart vu none) (pt : IsPart vs (some (-1))) (hz : items.size ≤ sizeLine)
    (h : Q (.ref s.heap.objs.size) { s with heap := s.heap.push { cls := .type "tuple", data := .seq items.toList.reverse.toArray } }) :
    wpAny (model prog w) A (getItem (.ref t) (.ref sl)) Q E s := by
  have ty : s.TypeIs (.ref sl) "slice" := by obtain ⟨ob, e1, e2, e3⟩ := id hs; exact ⟨ob, e1, e2⟩
  have ok : sizeOk (.seq items.toList.reverse.toArray) := by
    show items.toList.reverse.toArray.size ≤ sizeLine
    simpa using hz
  unfold getItem
  (try with_reducible refine wpAny_holding ?_); (first | refine wpAny_bind (wpAny_pure ?_) | skip)
  refine wpAny_bind (wpAny_sequenceKey ht.typeIs (by decide) ?_)
  have sg := PyProof.Rows.slot_tuple_getitem
  refine wpAny_bind (wpAny_callSpecial?_slot (name := Str.ofString "__getitem__") ht.typeIs sg ?_)
  refine wpAny_call_entry sg ht.typeIs entry_tuple_getitem ?_ (args_tuple_getitem _ _)
  refine (show wpAny _ _ (Builtin.Tuple.tupleItemsOf (.ref t) >>= _) _ _ s from ?_)
  refine wpAny_bind (tupleItemsOf_ ht (wpAny_bind (wpAny_typeOf ty ?_)))
  rw [if_pos (by decide)]
  refine wpAny_bind (applied_rev hs pl pu pt ?_)
  have no : ¬ (((items.size : Int) - 1 == 0 && (-1 : Int) == 1 && items.size == items.size) = true) := by simp
  show wpAny _ _ (if ((items.size : Int) - 1 == 0 && (-1 : Int) == 1 && items.size == items.size) = true then _ else _) _ _ s
  rw [if_neg no, pick_rev]
  first
    | exact wpAny_bind (wpAny_bind (m := Builtin.Tuple.tupleExact _) (wpAny_newObj_type (wpAny_pure ⟨_, rfl, wpAny_pure h⟩) ok))
    | exact wpAny_bind (m := Builtin.Tuple.tupleExact _) (wpAny_newObj_type (wpAny_pure ⟨_, rfl, wpAny_pure h⟩) ok)
    | exact wpAny_bind (m := Builtin.Tuple.tupleExact _) (wpAny_newObj_type (wpAny_bind (wpAny_pure (wpAny_pure ⟨_, rfl, wpAny_pure h⟩))) ok)
    | exact wpAny_bind (wpAny_bind (m := Builtin.Tuple.tupleExact _) (wpAny_newObj_type (wpAny_pure (wpAny_pure ⟨_, rfl, wpAny_pure h⟩)) ok))
def tRevT (K : PySem.W.Frag) (te : TE) : TE := fun σ H Q => te σ H fun x H1 => ∃ a xs, x = .ref a ∧ SqT K H1 a xs ∧ ∀ p, H1 p = none → Q (.ref p) (upd H1 p (.tup xs.reverse))
theorem pe_revT {e : Expr} {te : TE} {k : Nat} {p1 p2 p3 pos : Pos} (he : PE X e te) :
    PE X (.Subscript e (.Slice none none (some (.UnaryOp .USub (.Constant (.int 1) k p1) p2)) p3) pos) (tRevT X.K te) := by
  refine ⟨fun pins s σ H Q I h => Subscript_ (thn (he.run pins s σ H _ I h) ?_)⟩
  rintro v s1 ⟨x, H1, I1, r1, a, xs, ex, hx, q⟩
  subst ex
  cases r1
  have step : PO X (some (.UnaryOp .USub (.Constant (.int 1) k p1) p2)) (tPart (tUn (rU fun i => .int (-i)) (tC (.int 1)))) := po_some (pe_un un_neg pe_int)
  refine wpAny_Slice (thn (po_none.run pins s1 σ H1 (fun o G => o = none ∧ G = H1) I1 ⟨rfl, rfl⟩) ?_)
  rintro vl s2 ⟨l, G2, I2, pl, rfl, rfl⟩
  refine thn (po_none.run pins s2 σ G2 (fun o G => o = none ∧ G = G2) I2 ⟨rfl, rfl⟩) ?_
  rintro vu s3 ⟨l3, G3, I3, pu, rfl, rfl⟩
  refine thn (step.run pins s3 σ G3 (fun o G => o = some (-1) ∧ G = G3) I3 ⟨1, rfl, -1, rfl, rfl, rfl⟩) ?_
  rintro vs s4 ⟨l4, G4, I4, pt, rfl, rfl⟩
  have I5 := I4.kept (h' := s4.heap.push { cls := .type "slice", data := .fields #[vl, vu, vs] }) (t' := s4.toks) fun b ob z => Heap.get?_push_of_some _ z
  obtain ⟨its, r, ht, hz⟩ := I5.tuple hx
  have hl := r.length
  refine tail_any (ops := [.ref a, .ref s4.heap.objs.size]) ht.typeIs PyProof.Rows.slot_tuple_getitem.lookup ?_ (by with_unfolding_all rfl)
  refine getItem_rev ht (Heap.IsSliceOf.new _ vl vu vs) pl pu pt (by rw [List.size_toArray]; omega) ?_
  have J := I5.laid (t' := s4.toks) (o := .tup xs.reverse) (fun b ob z => Heap.get?_push_of_some _ z) (Nat.le_refl _)
    ⟨by rw [List.length_reverse]; exact hz, its.reverse, Vals.reverse r, IsTup.new _ _⟩
  exact ⟨.ref _, _, J, rfl, q _ (I5.hok.fresh (Nat.le_refl _))⟩
end

/-! ### kinds -/
def kindOf : PyData → String
  | .none => "NoneType"
  | .bool _ => "bool"
  | .int _ => "int"
  | .str _ => "str"
  | .list _ => "list"
  | .tuple _ => "tuple"
  | .dict _ => "dict"
theorem Da.ty {a : Addr} {H : Hp} {K : PySem.W.Frag} : ∀ {v : V} {d : PyData}, Da a H v d → TyX K H v (.type (kindOf d))
  | _, _, .non => .base .non
  | _, _, .bl b => .base (.bl b)
  | _, _, .int i => .base (.int i)
  | _, _, .str x => .base (.str x)
  | _, _, .lst _ h _ => .base (.lst h)
  | _, _, .tup _ h _ => .base (.tup h)
  | _, _, .dct _ h => .base (.dK h)
end Tw

set_option Elab.async false
set_option linter.all false
set_option maxRecDepth 100000
set_option maxHeartbeats 4000000
/-! defs of the text, and calls of them by name -/
namespace Tw
open PySem PySem.Spec PyProof.Rows L2

/-- the def st stands at the name x -/
def Def (K : PySem.W.Frag) (mg : Str → Option Value) (x : Str) (st : Stmt) (ps : List Str) : Prop :=
  ∃ f fd, Fun K x x st f fd ∧ mg x = some (.ref f) ∧ Binds K fd ps []
/-- f is a def, fd -/
def FdAt (K : PySem.W.Frag) (f : Addr) (fd : FuncData) : Prop := ∃ oc od osl, K.lookup f = some ⟨oc, od, .func fd, osl⟩
theorem fdAt {K : PySem.W.Frag} {x q : Str} {st : Stmt} {f : Addr} {fd : FuncData} (F : Fun K x q st f fd) : FdAt K f fd := by
  obtain ⟨oc, od, _, _, _, _, _, _, osl, _, lk, _⟩ := F.ex
  exact ⟨oc, od, osl, lk⟩
/-- what stands at the name x keeps the promise -/
def Cal (P : Program) (w : World) (K : PySem.W.Frag) (mg : Str → Option Value) (base : Heap) (x : Str) (k : Nat) (ps : List Str) (sp : Sp) : Prop :=
  ∃ f fd, FnOk P w K mg base CX0 k f fd ps sp ∧ mg x = some (.ref f) ∧ PySem.W.keepIn K (.ref f) = true ∧ Binds K fd ps [] ∧ FdAt K f fd
def CalG (P : Program) (w : World) (K : PySem.W.Frag) (mg : Str → Option Value) (base : Heap) (x : Str) (k : Nat) (ps : List Str) (sp : Sp) : Prop :=
  ∃ f fd, FnG P w K mg base k f fd ps sp ∧ mg x = some (.ref f) ∧ PySem.W.keepIn K (.ref f) = true ∧ Binds K fd ps [] ∧ FdAt K f fd
section
variable {P : Program} {w : World} {K : PySem.W.Frag} {mg : Str → Option Value} {base : Heap} {x : Str} {st : Stmt} {ps N : List Str} {k : Nat} {sp : Sp}
theorem Def.ok (D : Def K mg x st ps) (S : FnScope N ps (defScope st)) (many : ∀ vs H Q E, sp vs H Q E → vs.length = ps.length)
    (hbody : ∀ (f : Addr) (cdv : Value) (A : Around) (out : List Env) (s : Shared) (H : Hp) (vs : List V) (Q : VK) (E : XK),
      Room k (A.deeper (envOfC x (defScope st) s.heap.objs.size f cdv)) → sp vs H Q E →
      ∃ t, PSs (cxOf CX0 P w K mg base N x (defScope st) f cdv A out s H E).nox (defBody st) t ∧
        t { nx := fun _ H' => Q .non H', rt := Q } (start N vs) H) : Cal P w K mg base x (k + 1) ps sp := by
  obtain ⟨f, fd, F, m, b⟩ := D
  exact ⟨f, fd, F.ok S many (fun cdv A out s H vs Q E hr hs => hbody f cdv A out s H vs Q E hr hs), m, F.kp, b, fdAt F⟩
theorem Def.okG (D : Def K mg x st ps) (S : FnScope N ps (defScope st)) (many : ∀ vs H Q E, sp vs H Q E → vs.length = ps.length)
    (hbody : ∀ (f : Addr) (cdv : Value) (A : Around) (out : List Env) (s : Shared) (H : Hp) (vs : List V) (Q : VK) (E : XK),
      Qt (A.deeper (envOfC x (defScope st) s.heap.objs.size f cdv)) →
      Room k (A.deeper (envOfC x (defScope st) s.heap.objs.size f cdv)) → sp vs H Q E →
      ∃ t, PSs (cxOf CX0 P w K mg base N x (defScope st) f cdv A out s H E).nox (defBody st) t ∧
        t { nx := fun _ H' => Q .non H', rt := Q } (start N vs) H) : CalG P w K mg base x (k + 1) ps sp := by
  obtain ⟨f, fd, F, m, b⟩ := D
  exact ⟨f, fd, Fun.okG F S many (fun cdv A out s H vs Q E hq hr hs => hbody f cdv A out s H vs Q E hq hr hs), m, F.kp, b, fdAt F⟩
theorem Cal.imp {sp' : Sp} (C : Cal P w K mg base x k ps sp) (h : ∀ vs H Q E, sp' vs H Q E → sp vs H Q E) : Cal P w K mg base x k ps sp' := by
  obtain ⟨f, fd, F, r⟩ := C
  exact ⟨f, fd, F.imp h, r⟩
theorem Cal.up {j : Nat} (C : Cal P w K mg base x j ps sp) (h : j ≤ k) : Cal P w K mg base x k ps sp := by
  obtain ⟨f, fd, F, r⟩ := C
  exact ⟨f, fd, F.mono h, r⟩
theorem def_mk {h : Heap} {f : Addr} {oc kV dc pm cd ct : Value} {od an : Option Addr} {sl : Array (Option Value)} (X : K.In h) (G : h.Ns mainGlobals mg)
    (a : PySem.W.nsIn K mainGlobals x = some (some (.ref f)))
    (l : K.lookup f = some ⟨oc, od, .func (PySem.W.fnOf x x (defArgs st) (defBody st) (defScope st) .none kV dc pm an cd ct), sl⟩)
    (c : PySem.W.codeIn K cd x = true) (kp : PySem.W.keepIn K (.ref f) = true)
    (hb : ∀ (kV doc pm : Value) (an : Option Addr) (cdv ct : Value) (us : List Value), us.length = ps.length →
      bindArgs (PySem.W.fnOf x x (defArgs st) (defBody st) (defScope st) .none kV doc pm an cdv ct) ⟨us, []⟩ = pure (ps.zip us)) : Def K mg x st ps := by
  have F := fun_mk (st := st) l c kp
  exact ⟨f, _, F, PySem.W.mg_of X G a, F.binds hb⟩
end
section
variable {X : Cx} {k j : Nat} {ps : List Str} {sp : Sp} {x : Str} {p pos : Pos} {e : Expr} {es : List Expr} {t : TA}
/-- f(e, ..) -/
theorem pe_cal (C : Cal X.prog X.w X.K X.mg X.base x j ps sp) (hr : Room k X.A) (hj : j ≤ k) (hg : Gl X x) (ha : PA X (e :: es) t) (hdb : (x == ("__debug__" : Str)) = false := by decide)
    (he : starEach (e :: es) X.env = (false, eval e X.env) :: starEach es X.env := by rfl) (hpl : (backTo pos (starEach es X.env)).any (·.1) = false := by rfl) :
    PE X (.Call (.Name x p) (e :: es) [] pos) (tCall sp [] E0 t) := by
  obtain ⟨f, fd, F, m, kp, b, _⟩ := C
  exact pe_call F (hr.mono hj) hg m kp b .nil pass0 ha hdb he hpl
theorem pe_calG (C : CalG X.prog X.w X.K X.mg X.base x j ps sp) (hq : Qt X.A) (hr : Room k X.A) (hj : j ≤ k) (hg : Gl X x) (ha : PA X (e :: es) t) (hdb : (x == ("__debug__" : Str)) = false := by decide)
    (he : starEach (e :: es) X.env = (false, eval e X.env) :: starEach es X.env := by rfl) (hpl : (backTo pos (starEach es X.env)).any (·.1) = false := by rfl) :
    PE X (.Call (.Name x p) (e :: es) [] pos) (tCall sp [] E0 t) := by
  obtain ⟨f, fd, F, m, kp, b, _⟩ := C
  exact pe_callG F hq (hr.mono hj) hg m kp b ha hdb he hpl

/-- f(k = e, ..), nothing by position: ks the names as they are written, g puts the values in the parameters' order -/
theorem pe_calK {st : Stmt} {ks : List Str} {kws : List Keyword} (g : List Value → List Value) (gV : List V → List V) (C : Cal X.prog X.w X.K X.mg X.base x j ps sp) (D : Def X.K X.mg x st ps) (hr : Room k X.A) (hj : j ≤ k) (hg : Gl X x)
    (hb : ∀ (kV doc pm : Value) (an : Option Addr) (cdv ct : Value) (us : List Value), us.length = ks.length →
      bindArgs (PySem.W.fnOf x x (defArgs st) (defBody st) (defScope st) .none kV doc pm an cdv ct) ⟨[], ks.zip us⟩ = pure (ps.zip (g us)))
    (hrel : ∀ {zs : List V} {us : List Value}, Vals zs us → us.length = ks.length → Vals (gV zs) (g us)) (ha : PK X kws t)
    (hn : ∀ zs H Q, t zs H Q → t zs H fun vs H' => vs.length = ks.length ∧ Q vs H')
    (hall : (backToKw pos (keywordEach kws X.env)).all (·.1.isSome) = true := by rfl) (hks : (backToKw pos (keywordEach kws X.env)).filterMap (·.1) = ks := by rfl)
    (hdb : (x == ("__debug__" : Str)) = false := by decide)
    (hpl : ((backTo pos (starEach [] X.env)).any (·.1) || (backToKw pos (keywordEach kws X.env)).any (·.1.isNone)) = false := by rfl) :
    PE X (.Call (.Name x p) [] kws pos) (fun σ H Q => t σ H fun zs H1 => sp (gV zs) H1 Q E0) := by
  obtain ⟨f, fd, F, m, kp, b, oc, od, osl, lk⟩ := C
  obtain ⟨f', fd', F', m', _⟩ := D
  have e1 : f' = f := by rw [m] at m'; injection m' with z; injection z with z; exact z.symm
  subst e1
  obtain ⟨oc', od', kV, doc, pm, an, cdv, ct, osl', e2, lk', _⟩ := F'.ex
  rw [lk] at lk'
  injection lk' with lk'
  injection lk' with _ _ e3 _
  injection e3 with e3
  subst e3
  refine ⟨fun pins s σ H Q I h => wpAny_Call_Name_kw (ld_glob I hg m ?_ hdb)⟩
  refine PySem.W.callWith_KW0 (h₀ := X.base) I.ok.mod.kin kp hall ?_ hpl
  refine thn (ha.run pos pins s σ H _ I (hn σ H _ h)) ?_
  rintro ws s2 ⟨zs, H2, I2, rz, hl, q2⟩
  rw [hks]
  refine ⟨I2.kIn, wpAny_call ?_⟩
  have hw : ws.length = ks.length := by rw [← Vals.length rz]; exact hl
  have bt : BindsTo s2 fd ⟨[], ks.zip ws⟩ (ps.zip (g ws)) := by
    rw [e2]
    exact .of_eq (hb kV doc pm an cdv ct ws hw)
  refine codeAny_mono (F.run X.A X.stack s2 H2 ⟨[], ks.zip ws⟩ (g ws) (gV zs) Q E0 (hr.mono hj) I2.env0 bt (hrel rz hw) q2) fun r s' hh => ?_
  cases r with
  | error z => exact False.elim hh
  | ok fl =>
    cases fl with
    | ret u => exact I2.after hh
    | next => exact False.elim hh
    | brk => exact False.elim hh
    | cont => exact False.elim hh
end

section
variable {P : Program} {w : World} {K : PySem.W.Frag} {mg : Str → Option Value} {st : Stmt} {x y : Str} {k : Nat} {sp : Sp} {fa : Addr}
theorem end_law (D : Def K mg x st [y]) (hfa : mg x = some (.ref fa)) (F : ∀ base : Heap, CalG P w K mg base x k [y] sp)
    (hb : ∀ (kV doc pm : Value) (an : Option Addr) (cdv ct u : Value), bindArgs (PySem.W.fnOf x x (defArgs st) (defBody st) (defScope st) .none kV doc pm an cdv ct) ⟨[u], []⟩ = pure [(y, u)]) :
    ∃ fd : FuncData, (∀ (s : Shared) (u : Value), BindsTo s fd ⟨[u], []⟩ [(y, u)]) ∧ ∀ base : Heap, K.In base → base.Ns mainGlobals mg → FnG P w K mg base k fa fd [y] sp := by
  obtain ⟨f, fd, F', m, _⟩ := D
  have e1 : f = fa := by rw [hfa] at m; injection m with z; injection z with z; exact z.symm
  subst e1
  obtain ⟨oc, od, kV, doc, pm, an, cdv, ct, osl, e2, lk, _⟩ := F'.ex
  refine ⟨fd, fun s u => by rw [e2]; exact .of_eq (hb kV doc pm an cdv ct u), fun base _ _ => ?_⟩
  obtain ⟨f2, fd2, G, m2, _, _, oc2, od2, osl2, lk2⟩ := F base
  have e3 : f2 = f := by rw [hfa] at m2; injection m2 with z; injection z with z; exact z.symm
  subst e3
  rw [lk] at lk2
  injection lk2 with lk2
  injection lk2 with _ _ e4 _
  injection e4 with e4
  rw [e4]
  exact G
end

theorem with_def {R : Prop} {K : PySem.W.Frag} {mg : Str → Option Value} {x : Str} {st : Stmt} {ps : List Str} {h : Heap} {f : Addr} {oc kV dc pm cd ct : Value} {od an : Option Addr} {sl : Array (Option Value)} (X : K.In h) (G : h.Ns mainGlobals mg)
    (a : PySem.W.nsIn K mainGlobals x = some (some (.ref f)))
    (l : K.lookup f = some ⟨oc, od, .func (PySem.W.fnOf x x (defArgs st) (defBody st) (defScope st) .none kV dc pm an cd ct), sl⟩)
    (c : PySem.W.codeIn K cd x = true) (kp : PySem.W.keepIn K (.ref f) = true)
    (hb : ∀ (kV doc pm : Value) (an : Option Addr) (cdv ct : Value) (us : List Value), us.length = ps.length →
      bindArgs (PySem.W.fnOf x x (defArgs st) (defBody st) (defScope st) .none kV doc pm an cdv ct) ⟨us, []⟩ = pure (ps.zip us))
    (go : Def K mg x st ps → R) : R := go (def_mk X G a l c kp hb)
theorem with_no {R : Prop} {K : PySem.W.Frag} {mg : Str → Option Value} {x : Str} {h : Heap} (X : K.In h) (G : h.Ns mainGlobals mg) (z : PySem.W.nsIn K mainGlobals x = some none) (go : mg x = none → R) : R := go (PySem.W.mg_none_of X G z)
end Tw

set_option Elab.async false
set_option linter.all false
set_option maxRecDepth 100000
set_option maxHeartbeats 4000000
/-! comprehensions over data, small facts -/
namespace Tw
open PySem PySem.Spec PyProof.Rows L2
theorem same_upd {H H' : Hp} {D : Addr} {o : HO} (s : Same H H') (n : H D = none) : Same H (upd H' D o) := fun b u e => by
  rw [upd_ne (ne_of_none e n)]; exact s b u e
theorem kp_upd {a : Addr} {H H' : Hp} {D : Addr} {o : HO} (s : Kp a H H') (n : H D = none) : Kp a H (upd H' D o) := fun b u ne e => by
  rw [upd_ne (ne_of_none e n)]; exact s b u ne e
theorem lt_line {n : Nat} (h : n < 100000) : n < sizeLine := Nat.lt_of_lt_of_le h (by decide)
theorem take_map {α β : Type} (f : α → β) {ds : List α} {i : Nat} {d : α} (h : ds[i]? = some d) : (ds.take i).map f ++ [f d] = (ds.take (i + 1)).map f := by
  rw [List.take_add_one, h, List.map_append]; rfl
section
variable {K : PySem.W.Frag} {te : TE} {i j : Nat} {elt : TE} {vs : List Nat} {σ : L2.St} {H : Hp} {Q : VK} {a p : Addr} {xs : List V} {ds : List PyData}
/-- [f(d) for d in t], t a tuple of data -/
theorem lc_mapT (f : PyData → V) (hv : σ[i]? = some (some (.ref p))) (ht : H p = some (.tup xs)) (hd : DaAll a H xs ds) (hn : xs.length < 100000)
    (hw : ∀ x, wipe ((wipe σ vs).set j (some x)) vs = wipe σ vs)
    (he : ∀ x d H1, d ∈ ds → Same H H1 → Da a H1 x d → ∀ R : VK, (∀ H2, Same H1 H2 → R (f d) H2) → elt ((wipe σ vs).set j (some x)) H1 R)
    (q : ∀ D H', Same H H' → H D = none → H' D = some (.lst (ds.map f)) → Q (.ref D) H') : tLc (iTup K (tVar i)) (gName j) tYes elt vs σ H Q := by
  refine ⟨.ref p, hv, p, rfl, ⟨xs, SqT.of ht⟩, fun D hD => ?_⟩
  refine lc_tup (xs := xs) (fun m H' => Same H H' ∧ H' D = some (.lst ((ds.take m).map f))) ⟨same_new hD, upd_same⟩ (fun m H' _ h => SqT.of (h.1 _ _ ht)) (fun m x H1 hx h => ?_) (fun H' h => ?_)
  · obtain ⟨h1, h2⟩ := h
    obtain ⟨d, e1, e2⟩ := hd.get hx
    have hm : m < xs.length := (List.getElem?_eq_some_iff.mp hx).1
    refine ⟨hw x, ?_⟩
    unfold tYes
    simp only [if_true]
    refine he x d H1 (List.mem_of_getElem? e1) h1 (e2.same h1) _ fun H2 s2 => ⟨(ds.take m).map f, s2 _ _ h2, ?_, same_upd (h1.trans s2) hD, ?_⟩
    · rw [List.length_map, List.length_take]; exact lt_line (by omega)
    · rw [upd_same, take_map f e1]
  · obtain ⟨h1, h2⟩ := h
    rw [hd.len, List.take_length] at h2
    exact q D H' h1 hD h2
theorem lc_mapL (f : PyData → V) (hv : σ[i]? = some (some (.ref p))) (ht : H p = some (.lst xs)) (hd : DaAll a H xs ds) (hn : xs.length < 100000)
    (hw : ∀ x, wipe ((wipe σ vs).set j (some x)) vs = wipe σ vs)
    (he : ∀ x d H1, d ∈ ds → Same H H1 → Da a H1 x d → ∀ R : VK, (∀ H2, Same H1 H2 → R (f d) H2) → elt ((wipe σ vs).set j (some x)) H1 R)
    (q : ∀ D H', Same H H' → H D = none → H' D = some (.lst (ds.map f)) → Q (.ref D) H') : tLc (iList K (tVar i)) (gName j) tYes elt vs σ H Q := by
  refine ⟨.ref p, hv, p, rfl, ⟨xs, SqL.of ht⟩, fun D hD => ?_⟩
  refine lc_list (xs := xs) (fun m H' => Same H H' ∧ H' D = some (.lst ((ds.take m).map f))) ⟨same_new hD, upd_same⟩ (fun m H' _ h => SqL.of (h.1 _ _ ht)) (fun m x H1 hx h => ?_) (fun H' h => ?_)
  · obtain ⟨h1, h2⟩ := h
    obtain ⟨d, e1, e2⟩ := hd.get hx
    have hm : m < xs.length := (List.getElem?_eq_some_iff.mp hx).1
    refine ⟨hw x, ?_⟩
    unfold tYes
    simp only [if_true]
    refine he x d H1 (List.mem_of_getElem? e1) h1 (e2.same h1) _ fun H2 s2 => ⟨(ds.take m).map f, s2 _ _ h2, ?_, same_upd (h1.trans s2) hD, ?_⟩
    · rw [List.length_map, List.length_take]; exact lt_line (by omega)
    · rw [upd_same, take_map f e1]
  · obtain ⟨h1, h2⟩ := h
    rw [hd.len, List.take_length] at h2
    exact q D H' h1 hD h2
end

/-! ### kinds, tests of kinds -/
def isIntD : PyData → Bool
  | .int _ => true
  | .bool _ => true
  | _ => false
def isBoolD : PyData → Bool
  | .bool _ => true
  | _ => false
def isTupD : PyData → Bool
  | .tuple _ => true
  | _ => false
theorem isi_int {K : PySem.W.Frag} (d : PyData) : PySem.W.kitOne K (.type (kindOf d)) (.type "int") = some (isIntD d) := by
  cases d with
  | none => exact kit_ty (show kitB "NoneType" "int" = some false by decide +kernel)
  | bool _ => exact kit_ty (show kitB "bool" "int" = some true by decide +kernel)
  | int _ => exact kit_ty (show kitB "int" "int" = some true by decide +kernel)
  | str _ => exact kit_ty (show kitB "str" "int" = some false by decide +kernel)
  | list _ => exact kit_ty (show kitB "list" "int" = some false by decide +kernel)
  | tuple _ => exact kit_ty (show kitB "tuple" "int" = some false by decide +kernel)
  | dict _ => exact kit_ty (show kitB "dict" "int" = some false by decide +kernel)
theorem isi_bool {K : PySem.W.Frag} (d : PyData) : PySem.W.kitOne K (.type (kindOf d)) (.type "bool") = some (isBoolD d) := by
  cases d with
  | none => exact kit_ty (show kitB "NoneType" "bool" = some false by decide +kernel)
  | bool _ => exact kit_ty (show kitB "bool" "bool" = some true by decide +kernel)
  | int _ => exact kit_ty (show kitB "int" "bool" = some false by decide +kernel)
  | str _ => exact kit_ty (show kitB "str" "bool" = some false by decide +kernel)
  | list _ => exact kit_ty (show kitB "list" "bool" = some false by decide +kernel)
  | tuple _ => exact kit_ty (show kitB "tuple" "bool" = some false by decide +kernel)
  | dict _ => exact kit_ty (show kitB "dict" "bool" = some false by decide +kernel)
theorem isi_tup {K : PySem.W.Frag} (d : PyData) : PySem.W.kitOne K (.type (kindOf d)) (.type "tuple") = some (isTupD d) := by
  cases d with
  | none => exact kit_ty (show kitB "NoneType" "tuple" = some false by decide +kernel)
  | bool _ => exact kit_ty (show kitB "bool" "tuple" = some false by decide +kernel)
  | int _ => exact kit_ty (show kitB "int" "tuple" = some false by decide +kernel)
  | str _ => exact kit_ty (show kitB "str" "tuple" = some false by decide +kernel)
  | list _ => exact kit_ty (show kitB "list" "tuple" = some false by decide +kernel)
  | tuple _ => exact kit_ty (show kitB "tuple" "tuple" = some true by decide +kernel)
  | dict _ => exact kit_ty (show kitB "dict" "tuple" = some false by decide +kernel)
/-- isinstance(x, T) of a datum -/
theorem isi {K : PySem.W.Frag} {a : Addr} {H : Hp} {Q : VK} {v : V} {d : PyData} {T : String} {b : Bool} (h : Da a H v d) (k : PySem.W.kitOne K (.type (kindOf d)) (.type T) = some b) (q : Q (.bl b) H) :
    rIsi K [v, .ty T] H Q := ⟨v, .ty T, .type (kindOf d), .type T, b, rfl, .ty T, h.ty, k, q⟩

/-! ### how deep, how wide -/
mutual
def dep : PyData → Nat
  | .list ds => dep1 ds + 1
  | .tuple ds => dep1 ds + 1
  | _ => 0
def dep1 : List PyData → Nat
  | [] => 0
  | d :: ds => max (dep d) (dep1 ds)
end
mutual
def wid : PyData → Nat
  | .list ds => max ds.length (wid1 ds)
  | .tuple ds => max ds.length (wid1 ds)
  | _ => 0
def wid1 : List PyData → Nat
  | [] => 0
  | d :: ds => max (wid d) (wid1 ds)
end
theorem dep1_mem {d : PyData} : ∀ {ds : List PyData}, d ∈ ds → dep d ≤ dep1 ds
  | e :: ds, h => by
    rw [dep1]
    rcases List.mem_cons.mp h with rfl | h
    · exact Nat.le_max_left _ _
    · exact Nat.le_trans (dep1_mem h) (Nat.le_max_right _ _)
theorem wid1_mem {d : PyData} : ∀ {ds : List PyData}, d ∈ ds → wid d ≤ wid1 ds
  | e :: ds, h => by
    rw [wid1]
    rcases List.mem_cons.mp h with rfl | h
    · exact Nat.le_max_left _ _
    · exact Nat.le_trans (wid1_mem h) (Nat.le_max_right _ _)
theorem dep1_le {n : Nat} : ∀ {ds : List PyData}, (∀ d ∈ ds, dep d ≤ n) → dep1 ds ≤ n
  | [], _ => Nat.zero_le _
  | d :: ds, h => by
    rw [dep1]
    exact Nat.max_le.mpr ⟨h d (by simp), dep1_le fun e he => h e (by simp [he])⟩
theorem wid1_le {n : Nat} : ∀ {ds : List PyData}, (∀ d ∈ ds, wid d ≤ n) → wid1 ds ≤ n
  | [], _ => Nat.zero_le _
  | d :: ds, h => by
    rw [wid1]
    exact Nat.max_le.mpr ⟨h d (by simp), wid1_le fun e he => h e (by simp [he])⟩
/-- at most n deep, m wide -/
def Sm (n m : Nat) (d : PyData) : Prop := dep d ≤ n ∧ wid d ≤ m
theorem Sm.up {n m n' m' : Nat} {d : PyData} (h : Sm n m d) (h1 : n ≤ n') (h2 : m ≤ m') : Sm n' m' d := ⟨Nat.le_trans h.1 h1, Nat.le_trans h.2 h2⟩
theorem sm_tup {n m : Nat} {ds : List PyData} (hl : ds.length ≤ m) (h : ∀ d ∈ ds, Sm n m d) : Sm (n + 1) m (.tuple ds) :=
  ⟨by rw [dep]; exact Nat.succ_le_succ (dep1_le fun d hd => (h d hd).1), by rw [wid]; exact Nat.max_le.mpr ⟨hl, wid1_le fun d hd => (h d hd).2⟩⟩
theorem sm_lst {n m : Nat} {ds : List PyData} (hl : ds.length ≤ m) (h : ∀ d ∈ ds, Sm n m d) : Sm (n + 1) m (.list ds) :=
  ⟨by rw [dep]; exact Nat.succ_le_succ (dep1_le fun d hd => (h d hd).1), by rw [wid]; exact Nat.max_le.mpr ⟨hl, wid1_le fun d hd => (h d hd).2⟩⟩
theorem Sm.len {n m : Nat} {ds : List PyData} (h : Sm n m (.tuple ds)) : ds.length ≤ m := by
  have := h.2
  rw [wid] at this
  exact Nat.le_trans (Nat.le_max_left _ _) this
theorem Sm.dep1 {n m : Nat} {ds : List PyData} (h : Sm n m (.tuple ds)) : 1 ≤ n := by
  have := h.1
  rw [dep] at this
  omega
theorem Sm.mem {n m : Nat} {ds : List PyData} {d : PyData} (h : Sm n m (.tuple ds)) (hd : d ∈ ds) : Sm (n - 1) m d := by
  obtain ⟨h1, h2⟩ := h
  rw [dep] at h1
  rw [wid] at h2
  have := dep1_mem hd
  exact ⟨by omega, Nat.le_trans (wid1_mem hd) (Nat.le_trans (Nat.le_max_right _ _) h2)⟩
def smB (n m : Nat) (d : PyData) : Bool := decide (dep d ≤ n) && decide (wid d ≤ m)
theorem sm_of {n m : Nat} {d : PyData} (h : smB n m d = true) : Sm n m d := by
  unfold smB at h
  simpa [Sm] using h

/-- a loop over a range, its body already read -/
theorem for_rng {lo : Int} {n : Nat} {B : (L2.St → Hp → Prop) → V → L2.St → Hp → Prop} {nx : L2.St → Hp → Prop} {σ : L2.St} {H : Hp} (Pv : Nat → L2.St → Hp → Prop) (h0 : Pv 0 σ H)
    (hs : ∀ (i : Nat) σ' H', i < n → Pv i σ' H' → B (Pv (i + 1)) (.int (lo + i)) σ' H') (hd : ∀ σ' H', Pv n σ' H' → nx σ' H') :
    ∃ W : Nat → Nat → L2.St → Hp → Prop, (∃ m, W 0 m σ H) ∧ ∀ i m σ H, W i m σ H →
      ((Itr lo n).stop i H ∧ nx σ H) ∨ ((Itr lo n).go i H ∧ ∃ N : L2.St → Hp → Prop, (∀ σ' H', N σ' H' → ∃ m', m' < m ∧ W (i + 1) m' σ' H') ∧ ∀ x H', (Itr lo n).yld i H x H' → B N x σ H') := by
  refine ⟨fun i m σ H => m = n - i ∧ i ≤ n ∧ Pv i σ H, ⟨n, by simp, Nat.zero_le _, h0⟩, ?_⟩
  rintro i m σ' H' ⟨rfl, hi, p⟩
  by_cases c : i < n
  · refine Or.inr ⟨c, Pv (i + 1), fun σ2 H2 p2 => ⟨n - (i + 1), by omega, rfl, c, p2⟩, fun x H2 y => ?_⟩
    obtain ⟨e1, e2⟩ := y
    subst e1 e2
    exact hs i σ' _ c p
  · have e : i = n := by omega
    subst e
    exact Or.inl ⟨by show i ≤ i; omega, hd σ' H' p⟩

/-- a loop over a list, its body already read -/
theorem for_lst {K : PySem.W.Frag} {a : Addr} {xs : List V} {B : (L2.St → Hp → Prop) → V → L2.St → Hp → Prop} {nx : L2.St → Hp → Prop} {σ : L2.St} {H : Hp} (Pv : Nat → L2.St → Hp → Prop) (h0 : Pv 0 σ H)
    (hl : ∀ i σ' H', i ≤ xs.length → Pv i σ' H' → SqL K H' a xs)
    (hs : ∀ (i : Nat) x σ' H', xs[i]? = some x → Pv i σ' H' → B (Pv (i + 1)) x σ' H') (hd : ∀ σ' H', Pv xs.length σ' H' → nx σ' H') :
    ∃ W : Nat → Nat → L2.St → Hp → Prop, (∃ m, W 0 m σ H) ∧ ∀ i m σ H, W i m σ H →
      ((Itl K a).stop i H ∧ nx σ H) ∨ ((Itl K a).go i H ∧ ∃ N : L2.St → Hp → Prop, (∀ σ' H', N σ' H' → ∃ m', m' < m ∧ W (i + 1) m' σ' H') ∧ ∀ x H', (Itl K a).yld i H x H' → B N x σ H') := by
  refine ⟨fun i m σ H => m = xs.length - i ∧ i ≤ xs.length ∧ Pv i σ H, ⟨xs.length, by simp, Nat.zero_le _, h0⟩, ?_⟩
  rintro i m σ' H' ⟨rfl, hi, p⟩
  have ql := hl i σ' H' hi p
  by_cases c : i < xs.length
  · refine Or.inr ⟨⟨xs, xs[i], ql, by simp [c]⟩, Pv (i + 1), fun σ2 H2 p2 => ⟨xs.length - (i + 1), by omega, rfl, c, p2⟩, fun x H2 y => ?_⟩
    obtain ⟨e1, e2⟩ := y
    subst e1
    exact hs i x σ' _ (e2 xs ql) p
  · have e : i = xs.length := by omega
    subst e
    exact Or.inl ⟨⟨xs, ql, Nat.le_refl _⟩, hd σ' H' p⟩

theorem same_kp {a : Addr} {H H1 H2 : Hp} (s : Same H H1) (n : H a = none) (k : Kp a H1 H2) : Same H H2 := fun b o e => k b o (ne_of_none e n) (s b o e)
/-- [f(i) for i in range(n)] -/
theorem lc_rng {wi : TI} {j : Nat} {elt : TE} {vs : List Nat} {σ : L2.St} {H : Hp} {Q : VK} {n : Nat} (f : Nat → V) (hi : ∀ R : It → Hp → Prop, R (Itr 0 n) H → wi σ H R) (hn : n < 100000)
    (hw : ∀ x, wipe ((wipe σ vs).set j (some x)) vs = wipe σ vs)
    (he : ∀ (i : Nat) H1, i < n → Same H H1 → ∀ R : VK, (∀ H2, Same H1 H2 → R (f i) H2) → elt ((wipe σ vs).set j (some (.int (0 + (i : Int))))) H1 R)
    (q : ∀ D H', Same H H' → H D = none → H' D = some (.lst ((List.range n).map f)) → Q (.ref D) H') : tLc wi (gName j) tYes elt vs σ H Q := by
  refine hi _ fun D hD => ?_
  refine lc_range (lo := 0) (n := n) (fun m H' => Same H H' ∧ H' D = some (.lst ((List.range m).map f))) ⟨same_new hD, upd_same⟩ (fun m H1 hm h => ?_) (fun H' h => q D H' h.1 hD h.2)
  obtain ⟨h1, h2⟩ := h
  refine ⟨hw _, ?_⟩
  unfold tYes
  simp only [if_true]
  refine he m H1 hm h1 _ fun H2 s2 => ⟨(List.range m).map f, s2 _ _ h2, ?_, same_upd (h1.trans s2) hD, ?_⟩
  · rw [List.length_map, List.length_range]; exact lt_line (by omega)
  · rw [upd_same, List.range_succ, List.map_append]; rfl
end Tw

set_option Elab.async false
set_option linter.all false
set_option maxRecDepth 100000
set_option maxHeartbeats 4000000
/-! numbers that may be True or False -/
namespace Tw
open PySem PySem.Spec PyProof.Rows L2
/-- a number, True and False among them -/
inductive Nu : V → Int → Prop
  | int (i : Int) : Nu (.int i) i
  | bl (b : Bool) : Nu (.bl b) (if b = true then 1 else 0)
theorem nu_of {a : Addr} {H : Hp} {v : V} {d : PyData} (h : Da a H v d) (t : isIntD d = true) : ∃ i, Nu v i := by
  cases h with
  | int i => exact ⟨i, .int i⟩
  | bl b => exact ⟨_, .bl b⟩
  | _ => cases t
def rNl (f : Int → Int → Int) : R2 := fun x y H Q => ∃ i j, Nu x i ∧ y = .int j ∧ Q (.int (f i j)) H
def rNr (f : Int → Int → Int) : R2 := fun x y H Q => ∃ i j, x = .int i ∧ Nu y j ∧ Q (.int (f i j)) H
section
variable {X : Cx}
theorem op_addNl : OpR X (binaryOp .Add) (rNl fun i j => i + j) := by
  intro pins s σ H x y v u Q I rx ry h
  obtain ⟨i, j, nx, rfl, q⟩ := h
  obtain ⟨t, rfl⟩ := ry
  cases nx with
  | int _ => obtain ⟨t', rfl⟩ := rx; exact add_int ⟨.int _, H, I.tok _, ⟨_, rfl⟩, q⟩
  | bl b => cases rx; exact IntBool.add_bool_int ⟨.int _, H, I.tok _, ⟨_, rfl⟩, q⟩
theorem op_subNl : OpR X (binaryOp .Sub) (rNl fun i j => i - j) := by
  intro pins s σ H x y v u Q I rx ry h
  obtain ⟨i, j, nx, rfl, q⟩ := h
  obtain ⟨t, rfl⟩ := ry
  cases nx with
  | int _ => obtain ⟨t', rfl⟩ := rx; exact sub_int ⟨.int _, H, I.tok _, ⟨_, rfl⟩, q⟩
  | bl b => cases rx; exact IntBool.sub_bool_int ⟨.int _, H, I.tok _, ⟨_, rfl⟩, q⟩
theorem op_subNr : OpR X (binaryOp .Sub) (rNr fun i j => i - j) := by
  intro pins s σ H x y v u Q I rx ry h
  obtain ⟨i, j, rfl, ny, q⟩ := h
  obtain ⟨t, rfl⟩ := rx
  cases ny with
  | int _ => obtain ⟨t', rfl⟩ := ry; exact sub_int ⟨.int _, H, I.tok _, ⟨_, rfl⟩, q⟩
  | bl b => cases ry; exact IntBool.sub_int_bool ⟨.int _, H, I.tok _, ⟨_, rfl⟩, q⟩
/-- a small number times such a one -/
theorem op_mulNr : OpR X (binaryOp .Mult) (fun x y H Q => ∃ i j, x = .int i ∧ (-(2 ^ 64) < i ∧ i < 2 ^ 64) ∧ Nu y j ∧ Q (.int (i * j)) H) := by
  intro pins s σ H x y v u Q I rx ry h
  obtain ⟨i, j, rfl, ⟨b1, b2⟩, ny, q⟩ := h
  obtain ⟨t, rfl⟩ := rx
  cases ny with
  | int _ => obtain ⟨t', rfl⟩ := ry; exact mul_int ⟨.int _, H, I.tok _, ⟨_, rfl⟩, q⟩ (.of_left (intBits_le_64 b1 b2))
  | bl b => cases ry; exact IntBool.mul_int_bool ⟨.int _, H, I.tok _, ⟨_, rfl⟩, q⟩
/-- == of such a number and an int -/
theorem op_eqNl : OpR X (compareOp .Eq) (fun x y H Q => ∃ i j, Nu x i ∧ y = .int j ∧ Q (.bl (i == j)) H) := by
  intro pins s σ H x y v u Q I rx ry h
  obtain ⟨i, j, nx, rfl, q⟩ := h
  obtain ⟨t, rfl⟩ := ry
  cases nx with
  | int _ => obtain ⟨t', rfl⟩ := rx; exact eq_int ⟨.bl _, H, I, rfl, q⟩
  | bl b => cases rx; exact EqBoolInt.eq_bool_int ⟨.bl _, H, I, rfl, q⟩
end
end Tw

set_option Elab.async false
set_option linter.all false
set_option maxRecDepth 100000
set_option maxHeartbeats 4000000
/-! slices, sums, turned tuples of data -/
namespace Tw
open PySem PySem.Spec PyProof.Rows L2
section
variable {K : PySem.W.Frag} {a : Addr} {H : Hp} {v u : V} {ds es : List PyData} {Q : VK}
theorem da_tup (h : Da a H v (.tuple ds)) : ∃ p xs, v = .ref p ∧ p ≠ a ∧ H p = some (.tup xs) ∧ DaAll a H xs ds := by
  cases h with
  | tup n e r => exact ⟨_, _, rfl, n, e, r⟩
theorem cut_whole {ds : List PyData} {lo hi : Option Int} (h : HT.sIx ds.length 0 lo = 0 ∧ HT.sIx ds.length ds.length hi = ds.length) : cutD ds lo hi = ds := by
  unfold cutD
  rw [h.1, h.2, List.drop_zero, Nat.sub_zero, List.take_length]
theorem sl_da {lo hi : Option Int} (w : H a ≠ none) (h : Da a H v (.tuple ds)) (q : ∀ v' H', Same H H' → Da a H' v' (.tuple (cutD ds lo hi)) → Q v' H') : rSlA K v lo hi H Q := by
  obtain ⟨p, xs, rfl, np, hp, hx⟩ := da_tup h
  refine ⟨p, xs, rfl, SqT.of hp, fun c => ?_, fun c t nt => ?_⟩
  · rw [hx.len] at c
    exact q _ _ (Same.refl H) (by rw [cut_whole c]; exact h)
  · have s := same_new (o := .tup (cutV xs lo hi)) nt
    exact q _ _ s (.tup (new_ne w nt) upd_same ((hx.cut lo hi).same s))
theorem cat_da (w : H a ≠ none) (h : Da a H v (.tuple ds)) (g : Da a H u (.tuple es)) (hz : ds.length + es.length ≤ 100000) (q : ∀ v' H', Same H H' → Da a H' v' (.tuple (ds ++ es)) → Q v' H') : rCatA K v u H Q := by
  obtain ⟨p, xs, rfl, np, hp, hx⟩ := da_tup h
  obtain ⟨r, ys, rfl, nr, hr, hy⟩ := da_tup g
  refine ⟨p, r, xs, ys, rfl, rfl, SqT.of hp, SqT.of hr, sz (by rw [hx.len, hy.len]; exact hz), fun c => ?_, fun c c2 => ?_, fun c c2 t nt => ?_⟩
  · subst c
    cases hx
    exact q _ _ (Same.refl H) g
  · subst c2
    cases hy
    exact q _ _ (Same.refl H) (by rw [List.append_nil]; exact h)
  · have s := same_new (o := .tup (xs ++ ys)) nt
    exact q _ _ s (.tup (new_ne w nt) upd_same ((hx.append hy).same s))
theorem rev_da (w : H a ≠ none) (h : Da a H v (.tuple ds)) (q : ∀ v' H', Same H H' → Da a H' v' (.tuple ds.reverse) → Q v' H') :
    ∃ p xs, v = .ref p ∧ SqT K H p xs ∧ ∀ t, H t = none → Q (.ref t) (upd H t (.tup xs.reverse)) := by
  obtain ⟨p, xs, rfl, np, hp, hx⟩ := da_tup h
  refine ⟨p, xs, rfl, SqT.of hp, fun t nt => ?_⟩
  have s := same_new (o := .tup xs.reverse) nt
  exact q _ _ s (.tup (new_ne w nt) upd_same (hx.rev.same s))
theorem list_da (w : H a ≠ none) (h : Da a H v (.tuple ds)) (q : ∀ v' H', Same H H' → Da a H' v' (.list ds) → Q v' H') :
    ∃ p ys, [v] = [.ref p] ∧ (SqL K H p ys ∨ SqT K H p ys) ∧ ∀ l, H l = none → Q (.ref l) (upd H l (.lst ys)) := by
  obtain ⟨p, xs, rfl, np, hp, hx⟩ := da_tup h
  refine ⟨p, xs, rfl, .inr (SqT.of hp), fun t nt => ?_⟩
  have s := same_new (o := .lst xs) nt
  exact q _ _ s (.lst (new_ne w nt) upd_same (hx.same s))
/-- a written tuple of values that are data -/
theorem tup_da {vs : List V} (w : H a ≠ none) (h : DaAll a H vs ds) (hz : ds.length ≤ 100000) (q : ∀ v' H', Same H H' → Da a H' v' (.tuple ds) → Q v' H') :
    vs.length ≤ sizeLine ∧ ∀ p, H p = none → Q (.ref p) (upd H p (.tup vs)) := by
  refine ⟨sz (by rw [h.len]; exact hz), fun t nt => ?_⟩
  have s := same_new (o := .tup vs) nt
  exact q _ _ s (.tup (new_ne w nt) upd_same (h.same s))
theorem newT {vs : List V} {p : Addr} (w : H a ≠ none) (h : DaAll a H vs ds) (n : H p = none) : Same H (upd H p (.tup vs)) ∧ Da a (upd H p (.tup vs)) (.ref p) (.tuple ds) :=
  ⟨same_new n, .tup (new_ne w n) upd_same (h.same (same_new n))⟩
theorem newL {vs : List V} {p : Addr} (w : H a ≠ none) (h : DaAll a H vs ds) (n : H p = none) : Same H (upd H p (.lst vs)) ∧ Da a (upd H p (.lst vs)) (.ref p) (.list ds) :=
  ⟨same_new n, .lst (new_ne w n) upd_same (h.same (same_new n))⟩
/-- an item of such a one -/
theorem ix_da {i : Int} (h : Da a H v (.tuple ds)) (i0 : 0 ≤ i) (i1 : i < ds.length) (q : ∀ x d, d ∈ ds → Da a H x d → Q x H) : rIxT K v (.int i) H Q := by
  obtain ⟨p, xs, rfl, np, hp, hx⟩ := da_tup h
  obtain ⟨m, rfl⟩ := Int.eq_ofNat_of_zero_le i0
  have hm : m < xs.length := by rw [hx.len]; omega
  obtain ⟨d, e1, e2⟩ := hx.get (List.getElem?_eq_getElem hm)
  exact ⟨p, xs, _, xs[m], rfl, rfl, SqT.of hp, atI_nat (List.getElem?_eq_getElem hm), q _ d (List.mem_of_getElem? e1) e2⟩
end
theorem cut_mem {ds : List PyData} {lo hi : Option Int} {d : PyData} (h : d ∈ cutD ds lo hi) : d ∈ ds := List.mem_of_mem_drop (List.mem_of_mem_take h)
theorem cut_le (ds : List PyData) (lo hi : Option Int) : (cutD ds lo hi).length ≤ ds.length := by
  unfold cutD
  rw [List.length_take, List.length_drop]
  omega
theorem cut_upto (ds : List PyData) (k : Nat) : (cutD ds none (some (k : Int))).length = min k ds.length := by
  unfold cutD
  rw [HT.sIx_nat, HT.sIx_none, List.drop_zero, Nat.sub_zero, List.length_take]
  omega
theorem cut_from (ds : List PyData) (k : Nat) : (cutD ds (some (k : Int)) none).length = ds.length - min k ds.length := by
  unfold cutD
  rw [HT.sIx_nat, HT.sIx_none, List.length_take, List.length_drop]
  omega
theorem sm_sub {n m n' m' : Nat} {ds es : List PyData} (h : Sm n m (.tuple ds)) (hl : es.length ≤ m') (h1 : n ≤ n') (h2 : m ≤ m') (he : ∀ e ∈ es, e ∈ ds ∨ Sm (n' - 1) m' e) : Sm n' m' (.tuple es) := by
  have n1 := h.dep1
  have := sm_tup (n := n' - 1) hl fun e q => by
    rcases he e q with c | c
    · exact (h.mem c).up (by omega) h2
    · exact c
  exact this.up (by omega) (Nat.le_refl _)
theorem sm_subL {n m n' m' : Nat} {ds es : List PyData} (h : Sm n m (.tuple ds)) (hl : es.length ≤ m') (h1 : n ≤ n') (h2 : m ≤ m') (he : ∀ e ∈ es, e ∈ ds ∨ Sm (n' - 1) m' e) : Sm n' m' (.list es) := by
  have n1 := h.dep1
  have := sm_lst (n := n' - 1) hl fun e q => by
    rcases he e q with c | c
    · exact (h.mem c).up (by omega) h2
    · exact c
  exact this.up (by omega) (Nat.le_refl _)
theorem sm_int (n m : Nat) (i : Int) : Sm n m (.int i) := ⟨Nat.zero_le _, Nat.zero_le _⟩
theorem sm_bl (n m : Nat) (b : Bool) : Sm n m (.bool b) := ⟨Nat.zero_le _, Nat.zero_le _⟩
end Tw

set_option Elab.async false
set_option linter.all false
set_option maxRecDepth 100000
set_option maxHeartbeats 4000000
/-! rules: max with default, few times a tuple, *= and >>=, statements that are not reached -/
namespace Tw
open PySem PySem.Spec PyProof.Rows L2
section
variable {X : Cx}
/-- a statement that is not reached -/
def tDead : TS := fun _ _ _ => False
theorem ps_dead {st : Stmt} : PS X st tDead := ⟨fun _ _ _ _ _ _ h => h.elim⟩
theorem pss_dead {st : List Stmt} : PSs X st tDead := ⟨fun _ _ _ _ _ _ h => h.elim⟩
/-- max(l, default=0) of ints that are not negative -/
def maxN (ns : List Int) : Int := ns.foldl max 0
def rMaxZ (K : PySem.W.Frag) : List V → List V → Hp → VK → Prop := fun vs zs H Q => ∃ (a : Addr) (ns : List Int), vs = [.ref a] ∧ zs = [.int 0] ∧ SqL K H a (ns.map V.int) ∧ (∀ n ∈ ns, 0 ≤ n) ∧ Q (.int (maxN ns)) H
theorem cr_maxZ (hc : X.calm = true) (hu : X.A.units + 64 < cLine) : CallRK X (.builtin "max") [Str.ofString "default"] (rMaxZ X.K) := by
  intro pins s σ H vs zs us ws Q I r rz h
  obtain ⟨a, ns, rfl, rfl, hs, hn, q⟩ := h
  obtain ⟨its, rv, hl, _⟩ := I.list hs
  rw [Vals.ref1 r]
  obtain ⟨w1, rfl, e1⟩ := vals1 rz
  obtain ⟨t, rfl⟩ : ∃ t, w1 = Value.int 0 t := e1
  have rd : ReadsAll s.heap its.toArray.toList (ns.map .int) [] := IntsAre.reads _ rv.ints
  have dz : ∀ l : List Int, PyData.depthAll (l.map .int) = 0 := fun l => by
    induction l with
    | nil => rfl
    | cons n l ih => simp only [List.map_cons, PyData.depthAll, PyData.depth, ih]; rfl
  refine PySem.W.max_list_default (xs := ns.map .int) (I.ok.hd hc) hl.isList rd ⟨fun x hx y hy => ?_, fun x hx => ?_⟩ (by rw [dz]; show X.A.units + 1 + 0 < cLine; omega) (fun e h' tk k => ?_) (fun y ys i v h' tk bs e hv rv' k => ?_)
  · obtain ⟨i, _, rfl⟩ := List.mem_map.mp hx
    obtain ⟨j, _, rfl⟩ := List.mem_map.mp hy
    simp only [PySem.W.alike]
  · obtain ⟨i, _, rfl⟩ := List.mem_map.mp hx
    exact fun e => by cases e
  · have : ns = [] := by simpa using e
    subst this
    exact ⟨.int _, H, I.kept k, ⟨_, rfl⟩, q⟩
  · cases ns with
    | nil => cases e
    | cons n l =>
      rw [List.map_cons] at e
      injection e with e1 e2
      subst e1 e2
      rw [PySem.W.maxD_ints] at rv'
      cases rv' with
      | int _ t' =>
        have n0 := hn n (by simp)
        refine ⟨.int _, H, I.kept k, ⟨_, rfl⟩, ?_⟩
        have : maxN (n :: l) = l.foldl max n := by
          unfold maxN
          rw [List.foldl_cons]
          congr 1
          omega
        rw [← this]
        exact q
/-- o *= e, one of them small -/
theorem ip_mul : PIp X .Mult (fun x y H Q => ∃ i j, x = .int i ∧ y = .int j ∧ CMul i j ∧ Q (.int (i * j)) H) := by
  intro pins s σ H x y v u Q I r1 r2 h
  obtain ⟨i, j, rfl, rfl, c, q⟩ := h
  obtain ⟨t, rfl⟩ := r1
  obtain ⟨t', rfl⟩ := r2
  exact PyProof.Rows.imul_int ⟨.int _, H, I.tok _, ⟨_, rfl⟩, q⟩ c.ok
/-- o >>= 1 -/
theorem ip_half : PIp X .RShift (fun x y H Q => ∃ n : Nat, x = .int (n : Int) ∧ y = .int 1 ∧ Q (.int ((n / 2 : Nat) : Int)) H) := by
  intro pins s σ H x y v u Q I r1 r2 h
  obtain ⟨n, rfl, rfl, q⟩ := h
  obtain ⟨t, rfl⟩ := r1
  obtain ⟨t', rfl⟩ := r2
  refine PyProof.Rows.irshift_int (by decide) ?_
  rw [show (2 : Int) ^ (1 : Int).toNat = 2 from rfl, Int.fdiv_eq_ediv_of_nonneg _ (by decide)]
  exact ⟨.int _, H, I.tok _, ⟨_, rfl⟩, q⟩

/-! k times a tuple, k from 0 on -/
theorem tuple_mul1 (l : Addr) (items : Array Value) (n : Nat) (dd : Option Addr) (sl : Array (Option Value)) (u : Tok) :
    Meets (Builtin.«tuple.__mul__» ⟨[.ref l, .int 1 u], []⟩) (fun _ R s => s.heap.get? l = some { cls := .type "tuple", dict := dd, data := .seq items n, slots := sl } ∧ R (.ok (.ret (Value.ref l))) s) :=
  .of_wp fun prog w A R s h => by
    obtain ⟨hp, g, d, tk, os⟩ := s
    obtain ⟨hl, h⟩ := h
    have f1 := AutoSeq1.idx_int
    wp_walk using wpAny_loadPart' hl
    repeat (first
      | (refine wpAny_ite_false (by decide) ?_; wp_walk using wpAny_loadPart' hl)
      | (refine wpAny_ite_true (by simp) ?_; wp_walk using wpAny_loadPart' hl))
    exact ⟨_, rfl, h⟩
theorem tuple_mul0 (l : Addr) (items : Array Value) (n : Nat) (dd : Option Addr) (sl : Array (Option Value)) (u : Tok) (c1 : (items.isEmpty || (0 : Int) == 1) = false) :
    Meets (Builtin.«tuple.__mul__» ⟨[.ref l, .int 0 u], []⟩) (fun _ R s => s.heap.get? l = some { cls := .type "tuple", dict := dd, data := .seq items n, slots := sl } ∧
      R (.ok (.ret (Value.ref s.heap.objs.size))) { s with heap := s.heap.push { cls := Value.type "tuple", data := Data.seq #[] }, toks := s.toks }) :=
  .of_wp fun prog w A R s h => by
    obtain ⟨hp, g, d, tk, os⟩ := s
    obtain ⟨hl, h⟩ := h
    have f1 := AutoSeq1.idx_int
    wp_walk using wpAny_loadPart' hl
    repeat (first
      | (refine wpAny_ite_false (decide_eq_false (by rw [c1]; exact Bool.false_ne_true)) ?_; wp_walk using wpAny_loadPart' hl)
      | (refine wpAny_ite_false (by decide) ?_; wp_walk using wpAny_loadPart' hl)
      | (refine wpAny_ite_true (by simp) ?_; wp_walk using wpAny_loadPart' hl))
    exact ⟨_, rfl, h⟩
def rMulT (K : PySem.W.Frag) : R2 := fun x y H Q => ∃ (l : Addr) (k : Nat) (xs : List V), x = .ref l ∧ y = .int (k : Int) ∧ SqT K H l xs ∧ xs ≠ [] ∧ k ≤ 1000 ∧ xs.length ≤ 1000 ∧
  ∀ t H', Same H H' → SqT K H' t (List.replicate k xs).flatten → Q (.ref t) H'
theorem op_mulT : OpR X (binaryOp .Mult) (rMulT X.K) := by
  intro pins s σ H x y v u Q I rx ry h
  obtain ⟨l, k, xs, rfl, rfl, hT, hne, h1, hz, q⟩ := h
  rcases Nat.lt_or_ge 1 k with h2 | h2
  · exact op_repT pins s σ H _ _ v u Q I rx ry ⟨l, _, xs, rfl, rfl, hT, hne, by omega, by omega, hz, fun p np => q p _ (same_new np) (SqT.of (by rw [Int.toNat_natCast]; exact upd_same))⟩
  have rx' := rx
  cases rx
  obtain ⟨t, rfl⟩ := ry
  obtain ⟨its, r, ⟨⟨cls, dd, data, sl⟩, ho, hc, n, hd⟩, hs⟩ := I.tuple hT
  simp only at hc hd
  subst hc hd
  have hle : its.length = xs.length := r.length.symm
  have hn : its ≠ [] := fun e => hne (by
    rw [e] at hle
    exact List.eq_nil_of_length_eq_zero hle.symm)
  have hi : its.toArray.isEmpty = false := by
    cases its with
    | nil => exact absurd rfl hn
    | cons a b => rfl
  have hk : k = 0 ∨ k = 1 := by omega
  rcases hk with rfl | rfl
  · refine wpAny_binaryOp_repeat_ref (T := "tuple") (U := "int") (by decide) ⟨_, ho, rfl⟩ (fun s' => typeIs_int s' _ t) noFill_tuple_mul F.fills_int_mul F.slot_int_rmul repeat_tuple F.slot_int_index.lookup
      (call_meets F.slot_int_rmul (typeIs_int s _ t) F.entry_int_rmul (F.args_int_rmul_2 _ _) (int_rmul_tuple _ t l its.toArray n dd sl)
        ⟨ho, rfl, ⟨_, ho, rfl⟩, call_meets F.slot_tuple_mul ⟨_, ho, rfl⟩ F.entry_tuple_mul (F.args_tuple_mul_2 _ _) (tuple_mul0 l its.toArray n dd sl t (by rw [hi]; rfl)) ⟨ho, ?_⟩⟩)
    refine ⟨.ref s.heap.objs.size, _, I.laid (t' := s.toks) (o := .tup []) (fun b ob q => Heap.get?_push_of_some _ q) (Nat.le_refl _) ?_, rfl, q _ _ (same_new (I.hok.fresh (Nat.le_refl _))) (SqT.of upd_same)⟩
    exact ⟨by simp, _, .nil, IsTup.new _ _⟩
  · refine wpAny_binaryOp_repeat_ref (T := "tuple") (U := "int") (by decide) ⟨_, ho, rfl⟩ (fun s' => typeIs_int s' _ t) noFill_tuple_mul F.fills_int_mul F.slot_int_rmul repeat_tuple F.slot_int_index.lookup
      (call_meets F.slot_int_rmul (typeIs_int s _ t) F.entry_int_rmul (F.args_int_rmul_2 _ _) (int_rmul_tuple _ t l its.toArray n dd sl)
        ⟨ho, rfl, ⟨_, ho, rfl⟩, call_meets F.slot_tuple_mul ⟨_, ho, rfl⟩ F.entry_tuple_mul (F.args_tuple_mul_2 _ _) (tuple_mul1 l its.toArray n dd sl t) ⟨ho, ?_⟩⟩)
    exact ⟨.ref l, H, I, rfl, q _ _ (Same.refl H) (by simpa using hT)⟩
end
end Tw

set_option Elab.async false
set_option linter.all false
set_option maxRecDepth 100000
set_option maxHeartbeats 4000000
/-! for i, x in enumerate(t), t a tuple -/
namespace Tw
open PySem PySem.Spec PyProof.Rows L2
/-- the tuple's iterator, the enumerate over it, as they are made -/
def itO (p : Addr) : Obj :=
  { cls := .type "tuple_iterator", data := .fields #[.ref p, .int 0 0] }
def enO (i : Addr) : Obj :=
  { cls := .type "enumerate", data := .fields #[.none, .bool false, .ref i, rawInt 0, .none, .none] }
theorem enum_newT (p : Addr) (its : Array Value) (k : Nat) (dd : Option Addr) (sl : Array (Option Value)) :
    Meets (Builtin.«enumerate.__new__» ⟨[.type "enumerate", .ref p], []⟩) (fun _ R s =>
      s.heap.get? p = some ⟨.type "tuple", dd, .seq its k, sl⟩ ∧
      R (.ok (.ret (.ref (s.heap.push (itO p)).objs.size))) { s with heap := (s.heap.push (itO p)).push (enO s.heap.objs.size) }) := by
  refine .of_wp fun prog w A R s h => ?_
  obtain ⟨hp, gn, dr, tk, os⟩ := s
  obtain ⟨hl, h⟩ := h
  have hsub := sub_enumerate
  have isT : (Shared.heap ⟨hp, gn, dr, tk, os⟩).IsTuple p its := ⟨_, hl, rfl, k, rfl⟩
  wp_walk using AutoSeq1.wpAny_loadPart' hl
  refine wpAny_stack_any fun _ => ?_
  refine wpAny_pure ?_
  split
  · rename_i c _ _ _ _ _
    cases (c == Value.type "enumerate") <;>
    · wp_walk using AutoSeq1.wpAny_loadPart' hl, wpAny_pyIter_tuple isT
      exact ⟨_, rfl, h⟩
  · wp_walk using AutoSeq1.wpAny_loadPart' hl, wpAny_pyIter_tuple isT
    exact ⟨_, rfl, h⟩
section
variable {prog : Program} {w : World} {A : Around} {E : Value → Shared → Prop} {s : Shared}
theorem call_enumT {p : Addr} {its : Array Value} {Q : Value → Shared → Prop} (hT : s.heap.IsTuple p its)
    (h : ∀ h', IsEnum h' (s.heap.objs.size + 1) s.heap.objs.size 0 .none → h'.IsTupleIter s.heap.objs.size p 0 →
      (∀ b o, s.heap.get? b = some o → h'.get? b = some o) → Q (.ref (s.heap.objs.size + 1)) { s with heap := h' }) :
    wpAny (model prog w) A (call (.type "enumerate") [.ref p]) Q E s := by
  obtain ⟨⟨c, dd, dt, sl⟩, hl, hc, k, hd⟩ := hT
  cases (show c = .type "tuple" from hc)
  cases (show dt = .seq its k from hd)
  have z1 : (s.heap.push (itO p)).objs.size = s.heap.objs.size + 1 := Heap.size_push ..
  have g1 : ((s.heap.push (itO p)).push (enO s.heap.objs.size)).get? (s.heap.objs.size + 1) = some (enO s.heap.objs.size) := by
    rw [← z1]
    exact Heap.get?_push_size _ rfl
  have g0 : ((s.heap.push (itO p)).push (enO s.heap.objs.size)).get? s.heap.objs.size = some (itO p) :=
    Heap.get?_push_of_some _ (Heap.get?_push_size _ rfl)
  refine callType_new F.called_enumerate (by decide) (F.typeCall_enumerate_1 _) (F.newCall_enumerate_1 _)
    (fun obj => F.args_object_init_2 obj _) F.entry_enumerate_new (enum_newT p its k dd sl) ⟨hl, ?_⟩
  show _ ∧ _
  rw [z1]
  exact ⟨⟨_, g1, rfl⟩, h _ g1 ⟨_, g0, rfl, rfl⟩ fun b o y => Heap.get?_push_of_some _ (Heap.get?_push_of_some _ y)⟩
end
/-- the tuple at a, each item in a new pair with its number -/
def IteT (K : PySem.W.Frag) (a : Addr) : It where
  go := fun i H => ∃ (xs : List V) (x : V), SqT K H a xs ∧ xs[i]? = some x
  yld := fun i H v H' => ∃ t x, v = .ref t ∧ H t = none ∧ H' = upd H t (.tup [.int (i : Nat), x]) ∧
    ∀ xs, SqT K H a xs → xs[i]? = some x
  stop := fun i H => ∃ xs : List V, SqT K H a xs ∧ xs.length = i
theorem apart {h : Heap} {a b : Addr} {o u : Obj} {m n : String} (ha : h.get? a = some o) (hb : h.get? b = some u)
    (ca : o.cls = .type m) (cb : u.cls = .type n) (d : m ≠ n) : a ≠ b := by
  rintro rfl
  rw [ha] at hb
  cases hb
  rw [ca] at cb
  cases cb
  exact d rfl
theorem turn_enumT {P : Program} {w : World} {K : PySem.W.Frag} {elts : List Expr} {kk : Nat} {tpos : Pos} (a e it : Addr) :
    Turn P w K (.Tuple elts kk tpos) (IteT K a) [e, it] e
      (fun i h => (∃ old, IsEnum h e it ((i : Nat) : Int) old) ∧ h.IsTupleIter it a i ∧ e ≠ it) where
  mem := by simp
  obj := fun i h st b hb => by
    obtain ⟨⟨old, he⟩, ⟨o, ho, hc, hd⟩, _⟩ := st
    rcases List.mem_cons.mp hb with z | z
    · subst z; exact ⟨_, he, fun v q => nomatch q⟩
    · have z := List.mem_singleton.mp z
      subst z; exact ⟨o, ho, fun v q => by rw [hd] at q; cases q⟩
  keep := fun i h h' st k => by
    obtain ⟨⟨old, he⟩, hi, hne⟩ := st
    exact ⟨⟨old, k e (by simp) _ he⟩, hi.at fun o q => k it (by simp) o q, hne⟩
  item := by
    intro X hP hw hK hc i pins s σ H E I hf st hg
    subst hP hw hK
    obtain ⟨⟨old, he⟩, hit, hne⟩ := st
    obtain ⟨xs, x, hq, hx⟩ := hg
    obtain ⟨its, rv, p, hz⟩ := I.tuple hq
    obtain ⟨u, hu, ru⟩ := rv.get hx
    have isT : s.heap.IsTuple a its.toArray := p
    obtain ⟨oa, ga, ca, _⟩ := id isT
    obtain ⟨oi, gi, ci, _⟩ := id hit
    have nai : a ≠ it := apart ga gi ca ci (by decide)
    have nea : e ≠ a := apart he ga rfl ca (by decide)
    have hel : e < s.heap.objs.size := Heap.lt_size he
    have hil : it < s.heap.objs.size := Heap.lt_size gi
    have hlt : i < its.toArray.size := by
      have := (List.getElem?_eq_some_iff.mp hu).1
      simpa using this
    refine wpAny_pyNext_enum_itemD (Draws.tuple (A := X.A.in1) (I.ok.hd hc) it a nai its.toArray) he ⟨hit, isT⟩ hlt hne
      (by simp [hne, nea]) fun y h' tk hy ho st' hT hsz hk => ?_
    have yu : y = u := by
      have : its[i]? = some y := by simpa using hy
      rw [hu] at this
      cases this; rfl
    subst yu
    refine ⟨_, rfl, wpAny_letOwnedTupleGo_enum (s := { s with heap := h', toks := tk + 1 }) ho fun h2 he2 sb => ?_⟩
    have hT2 := (sb.2 _ (Nat.ne_of_gt hel)).trans hT
    have new : ObjOk X.prog X.w (upd H s.heap.objs.size (.tup [.int (i : Nat), x])) h2 s.heap.objs.size (.tup [.int (i : Nat), x]) :=
      ⟨by show 2 ≤ sizeLine; decide, [.int i tk, y], .cons ⟨_, rfl⟩ (.cons ru .nil), ⟨_, hT2, rfl, _, rfl⟩⟩
    have old2 : ∀ b ob, b ∉ [e, it] → s.heap.get? b = some ob → h2.get? b = some ob := fun b ob hb q => by
      have b1 : b ≠ e := fun z => hb (by simp [z])
      have b2 : b ≠ it := fun z => hb (by simp [z])
      exact (sb.2 b b1).trans (hk b ob b1 b2 q)
    have I1 := I.turnedNew (t' := tk + 1) (ch := [e, it]) old2 hf (Nat.le_refl _) new
    refine ⟨.ref s.heap.objs.size, _, I1, rfl, ⟨_, x, rfl, I.hok.fresh (Nat.le_refl _), rfl, fun ys hy => by rw [I.tuple_inj hy hq]; exact hx⟩,
      ⟨⟨y, he2⟩, st'.1.at fun o q => (sb.2 it (Ne.symm hne)).trans q, hne⟩, fun b hb => ?_⟩
    have hb' : b < s.heap.objs.size := by
      rcases List.mem_cons.mp hb with z | z
      · rw [z]; exact hel
      · rw [List.mem_singleton.mp z]; exact hil
    rw [upd_ne (Nat.ne_of_lt hb')]
    exact (hf b hb).1
  done := by
    intro X hP hw hK hc i pins s σ H E I hf st hg
    subst hP hw hK
    obtain ⟨⟨old, he⟩, hit, hne⟩ := st
    obtain ⟨xs, hq, hx⟩ := hg
    obtain ⟨its, rv, p, hz⟩ := I.tuple hq
    obtain ⟨oa, ga, ca, _⟩ := id (show s.heap.IsTuple a its.toArray from p)
    obtain ⟨oi, gi, ci, _⟩ := id hit
    have nai : a ≠ it := apart ga gi ca ci (by decide)
    obtain ⟨f0, f1, f2, f3, f4, f5⟩ := hf it (by simp)
    have ei : i = its.toArray.size := by
      rw [← hx, rv.length, List.size_toArray]
    subst ei
    refine wpAny_pyNext_enum_endD (Draws.tuple (A := X.A.in1) (I.ok.hd hc) it a nai its.toArray) he ⟨hit, p⟩ fun h' eb => ?_
    exact ⟨rfl, I.turned (t' := s.toks) (fun b o hb q => eb b o hb q) f0 f1 f3 f4 f5⟩
  self := fun A i s Q E st h => by
    obtain ⟨⟨_, he⟩, _⟩ := st
    exact wpAny_pyIter_enum he h
/-- enumerate(e), e a tuple -/
def iEnumT (K : PySem.W.Frag) (te : TE) : TI := fun σ H R =>
  te σ H fun v H1 => ∃ a xs, v = .ref a ∧ SqT K H1 a xs ∧ R (IteT K a) H1
theorem pi_enumT {X : Cx} {e : Expr} {te : TE} {p pos tpos : Pos} {elts : List Expr} {kk : Nat} (hg : Gl X "enumerate")
    (hm : X.mg "enumerate" = none) (he : PE X e te) (hs : starEach [e] X.env = (false, eval e X.env) :: starEach [] X.env := by rfl) :
    PI X (.Tuple elts kk tpos) (.Call (.Name "enumerate" p) [e] [] pos) (iEnumT X.K te) := by
  refine ⟨fun pins s σ H R I h => ?_⟩
  refine Call_ (ld_blt I hg hm boot_enumerate (PyProof.Rows.callWith_type1 (args_cons
    (thn (he.run pins s σ H _ I h) fun u s1 ⟨v, H1, I1, r1, q1⟩ => args_nil ?_) hs) hs rfl))
  obtain ⟨a, xs, rfl, hq, q⟩ := q1
  cases r1
  obtain ⟨its, rv, isT, hz⟩ := I1.tuple hq
  refine call_enumT (show s1.heap.IsTuple a its.toArray from isT) fun h' en ti keep => wpAny_pyIter_enum en ?_
  refine ⟨s1.heap.objs.size + 1, [s1.heap.objs.size + 1, s1.heap.objs.size], _, _, H1, rfl, I1.kept (t' := s1.toks) keep,
    turn_enumT a (s1.heap.objs.size + 1) s1.heap.objs.size, ⟨⟨.none, en⟩, ti, Nat.succ_ne_self _⟩, fun b hb => ?_, q⟩
  have le : s1.heap.objs.size ≤ b := by
    rcases List.mem_cons.mp hb with z | z
    · rw [z]; exact Nat.le_add_right _ _
    · rw [List.mem_singleton.mp z]; exact Nat.le_refl _
  exact I1.fpOk le (I1.hok.fresh le)
/-- a loop over such pairs, its body already read -/
theorem for_enumT {K : PySem.W.Frag} {a : Addr} {xs : List V} {B : (L2.St → Hp → Prop) → V → L2.St → Hp → Prop} {nx : L2.St → Hp → Prop} {σ : L2.St} {H : Hp}
    (Pv : Nat → L2.St → Hp → Prop) (h0 : Pv 0 σ H) (hl : ∀ i σ' H', i ≤ xs.length → Pv i σ' H' → SqT K H' a xs)
    (hs : ∀ (i : Nat) x t σ' H', xs[i]? = some x → Pv i σ' H' → H' t = none → B (Pv (i + 1)) (.ref t) σ' (upd H' t (.tup [.int (i : Nat), x])))
    (hd : ∀ σ' H', Pv xs.length σ' H' → nx σ' H') :
    ∃ W : Nat → Nat → L2.St → Hp → Prop, (∃ m, W 0 m σ H) ∧ ∀ i m σ H, W i m σ H →
      ((IteT K a).stop i H ∧ nx σ H) ∨ ((IteT K a).go i H ∧ ∃ N : L2.St → Hp → Prop, (∀ σ' H', N σ' H' → ∃ m', m' < m ∧ W (i + 1) m' σ' H') ∧
        ∀ x H', (IteT K a).yld i H x H' → B N x σ H') := by
  refine ⟨fun i m σ H => m = xs.length - i ∧ i ≤ xs.length ∧ Pv i σ H, ⟨xs.length, by simp, Nat.zero_le _, h0⟩, ?_⟩
  rintro i m σ' H' ⟨rfl, hi, p⟩
  have ql := hl i σ' H' hi p
  by_cases c : i < xs.length
  · refine Or.inr ⟨⟨xs, xs[i], ql, by simp [c]⟩, Pv (i + 1), fun σ2 H2 p2 => ⟨xs.length - (i + 1), by omega, rfl, c, p2⟩, fun v H2 y => ?_⟩
    obtain ⟨t, x, rfl, nt, rfl, e2⟩ := y
    exact hs i x t σ' H' (e2 xs ql) p nt
  · have e : i = xs.length := by omega
    subst e
    exact Or.inl ⟨⟨xs, ql, rfl⟩, hd σ' H' p⟩
/-- .. in a comprehension -/
theorem lc_enumT {K : PySem.W.Frag} {a : Addr} {xs : List V} {gt : TG} {tt : TT} {te : TE} {vs : List Nat} {σ : L2.St} {H1 : Hp} {D : Addr} {Qd : Hp → Prop}
    (Pv : Nat → Hp → Prop) (h0 : Pv 0 (upd H1 D (.lst []))) (hl : ∀ i H, i ≤ xs.length → Pv i H → SqT K H a xs)
    (hs : ∀ (i : Nat) x t H, xs[i]? = some x → Pv i H → H t = none → gt (.ref t) (wipe σ vs) (upd H t (.tup [.int (i : Nat), x])) fun σ2 H2 =>
      wipe σ2 vs = wipe σ vs ∧ tt σ2 H2 fun b H3 => if b = true then te σ2 H3 fun y H4 => ∃ acc, H4 D = some (.lst acc) ∧
        acc.length < sizeLine ∧ Pv (i + 1) (upd H4 D (.lst (acc ++ [y]))) else Pv (i + 1) H3)
    (hd : ∀ H, Pv xs.length H → Qd H) :
    ∃ W : Nat → Nat → Hp → Prop, (∃ m, W 0 m (upd H1 D (.lst []))) ∧ ∀ i m H, W i m H →
      ((IteT K a).stop i H ∧ Qd H) ∨ ((IteT K a).go i H ∧ ∃ Nx : Hp → Prop, (∀ H', Nx H' → ∃ m', m' < m ∧ W (i + 1) m' H') ∧
        ∀ x H', (IteT K a).yld i H x H' → gt x (wipe σ vs) H' fun σ2 H2 => wipe σ2 vs = wipe σ vs ∧ tt σ2 H2 fun b H3 =>
          if b = true then te σ2 H3 fun y H4 => ∃ acc, H4 D = some (.lst acc) ∧ acc.length < sizeLine ∧
            Nx (upd H4 D (.lst (acc ++ [y]))) else Nx H3) := by
  refine ⟨fun i m H => m = xs.length - i ∧ i ≤ xs.length ∧ Pv i H, ⟨xs.length, by simp, Nat.zero_le _, h0⟩, ?_⟩
  rintro i m H ⟨rfl, hi, p⟩
  have ql := hl i H hi p
  by_cases c : i < xs.length
  · refine Or.inr ⟨⟨xs, xs[i], ql, by simp [c]⟩, Pv (i + 1), fun H2 p2 => ⟨xs.length - (i + 1), by omega, rfl, c, p2⟩, fun v H2 y => ?_⟩
    obtain ⟨t, x, rfl, nt, rfl, e2⟩ := y
    exact hs i x t H (e2 xs ql) p nt
  · have e : i = xs.length := by omega
    subst e
    exact Or.inl ⟨⟨xs, ql, rfl⟩, hd H p⟩
end Tw

set_option Elab.async false
set_option linter.all false
set_option maxRecDepth 100000
set_option maxHeartbeats 4000000
/-! dicts whose keys are nested tuples; the values are True -/
namespace Tw
open PySem PySem.Spec PyProof.Rows L2
/-! data that may be keys -/
mutual
def isK : PyData → Bool
  | .int _ => true
  | .str _ => true
  | .none => true
  | .tuple ds => isK1 ds
  | _ => false
def isK1 : List PyData → Bool
  | [] => true
  | d :: ds => isK d && isK1 ds
end
mutual
def nk : PyData → NestedKey
  | .int i => .num i
  | .str x => .text x
  | .tuple ds => .tup (nk1 ds)
  | _ => .none
def nk1 : List PyData → List NestedKey
  | [] => []
  | d :: ds => nk d :: nk1 ds
end
mutual
theorem nk_inj : ∀ {d e : PyData}, isK d = true → isK e = true → nk d = nk e → d = e
  | .int i, e, _, he, h => by
    cases e with
    | int j => simp only [nk, NestedKey.num.injEq] at h; rw [h]
    | bool _ => simp [isK] at he
    | list _ => simp [isK] at he
    | dict _ => simp [isK] at he
    | _ => simp [nk] at h
  | .str x, e, _, he, h => by
    cases e with
    | str y => simp only [nk, NestedKey.text.injEq] at h; rw [h]
    | bool _ => simp [isK] at he
    | list _ => simp [isK] at he
    | dict _ => simp [isK] at he
    | _ => simp [nk] at h
  | .none, e, _, he, h => by
    cases e with
    | none => rfl
    | bool _ => simp [isK] at he
    | list _ => simp [isK] at he
    | dict _ => simp [isK] at he
    | _ => simp [nk] at h
  | .tuple ds, e, hd, he, h => by
    cases e with
    | tuple es =>
      simp only [nk, NestedKey.tup.injEq] at h
      rw [isK] at hd he
      rw [nk1_inj hd he h]
    | bool _ => simp [isK] at he
    | list _ => simp [isK] at he
    | dict _ => simp [isK] at he
    | _ => simp [nk] at h
  | .bool _, _, hd, _, _ => by simp [isK] at hd
  | .list _, _, hd, _, _ => by simp [isK] at hd
  | .dict _, _, hd, _, _ => by simp [isK] at hd
theorem nk1_inj : ∀ {ds es : List PyData}, isK1 ds = true → isK1 es = true → nk1 ds = nk1 es → ds = es
  | [], [], _, _, _ => rfl
  | [], _ :: _, _, _, h => by simp [nk1] at h
  | _ :: _, [], _, _, h => by simp [nk1] at h
  | d :: ds, e :: es, hd, he, h => by
    rw [isK1, Bool.and_eq_true] at hd he
    simp only [nk1, List.cons.injEq] at h
    rw [nk_inj hd.1 he.1 h.1, nk1_inj hd.2 he.2 h.2]
end
mutual
theorem nk_dep : ∀ {d : PyData}, isK d = true → (nk d).depth = dep d
  | .int _, _ => rfl
  | .str _, _ => rfl
  | .none, _ => rfl
  | .tuple ds, h => by
    rw [isK] at h
    rw [nk, NestedKey.depth, dep, nk1_dep h]
  | .bool _, h => by simp [isK] at h
  | .list _, h => by simp [isK] at h
  | .dict _, h => by simp [isK] at h
theorem nk1_dep : ∀ {ds : List PyData}, isK1 ds = true → NestedKey.depthAll (nk1 ds) = dep1 ds
  | [], _ => rfl
  | d :: ds, h => by
    rw [isK1, Bool.and_eq_true] at h
    rw [nk1, NestedKey.depthAll, dep1, nk_dep h.1, nk1_dep h.2]
end
section
variable {X : Cx} {pins : List (Addr × Obj)} {σ : L2.St} {H : Hp} {s : Shared} {a : Addr}
mutual
theorem nk_is (I : L2.Inv X pins σ H s) : ∀ {v : V} {d : PyData} {u : Value}, Da a H v d → isK d = true → L2.RelV v u → NestedIs s.heap (nk d) u
  | _, _, _, .non, _, r => by cases r; exact .none
  | _, _, _, .int i, _, r => by obtain ⟨t, rfl⟩ := r; exact .int i t
  | _, _, _, .str x, _, r => by obtain ⟨t, rfl⟩ := r; exact .text x t
  | _, _, _, .tup n h t, g, r => by
    cases r
    rw [isK] at g
    obtain ⟨its, rv, ⟨o, ho, hc, m, hd⟩, _⟩ := I.tuple (SqT.of h)
    exact .tup ho hc hd (nk1_is I t g rv)
  | _, _, _, .bl _, g, _ => by simp [isK] at g
  | _, _, _, .lst _ _ _, g, _ => by simp [isK] at g
  | _, _, _, .dct _ _, g, _ => by simp [isK] at g
theorem nk1_is (I : L2.Inv X pins σ H s) : ∀ {vs : List V} {ds : List PyData} {us : List Value}, DaAll a H vs ds → isK1 ds = true → Vals vs us → NestedAll s.heap (nk1 ds) us
  | _, _, _, .nil, _, r => by cases r; exact .nil
  | _, _, _, .cons h t, g, r => by
    cases r with
    | cons r1 r2 =>
      rw [isK1, Bool.and_eq_true] at g
      exact .cons (nk_is I h g.1 r1) (nk1_is I t g.2 r2)
end
end
mutual
theorem da_new {a D : Addr} {H : Hp} (n : H D = none) : ∀ {v : V} {d : PyData}, Da a H v d → Da D H v d
  | _, _, .non => .non
  | _, _, .bl b => .bl b
  | _, _, .int i => .int i
  | _, _, .str x => .str x
  | _, _, .lst _ h t => .lst (ne_of_none h n) h (das_new n t)
  | _, _, .tup _ h t => .tup (ne_of_none h n) h (das_new n t)
  | _, _, .dct _ h => .dct (ne_of_none h n) h
theorem das_new {a D : Addr} {H : Hp} (n : H D = none) : ∀ {vs : List V} {ds : List PyData}, DaAll a H vs ds → DaAll D H vs ds
  | _, _, .nil => .nil
  | _, _, .cons h t => .cons (da_new n h) (das_new n t)
end
/-! the dict -/
abbrev Ent := NestedKey × Addr × Value
def FdO (P : Program) (w : World) (D : Addr) (xs : List Ent) : HO := .ext fun h => (D == sysModules) = false ∧ ∃ (o : Obj) (es : Array DictEntry) (ep : Nat), h.get? D = some o ∧ o.ExactDict ∧ o.data = .dict es ep ∧ es.toList = xs.map (entryOfKey (nestedKind P w))
theorem fd_ok {P : Program} {w : World} {H : Hp} {h : Heap} {D : Addr} {xs : List Ent} {o : Obj} {es : Array DictEntry} {ep : Nat} (hs : (D == sysModules) = false) (h1 : h.get? D = some o) (h2 : o.ExactDict) (h3 : o.data = .dict es ep) (h4 : es.toList = xs.map (entryOfKey (nestedKind P w))) :
    ObjOk P w H h D (FdO P w D xs) := ⟨⟨hs, o, es, ep, h1, h2, h3, h4⟩, ⟨o, h1⟩, fun _ _ ⟨a, o, es, ep, z1, z⟩ k => ⟨a, o, es, ep, k _ z1, z⟩⟩
/-- one pair -/
def FdE (D : Addr) (H : Hp) (x : Ent) (p : PyData) : Prop := x.1 = nk p ∧ x.2.2 = .bool true ∧ isK p = true ∧ dep p ≤ 8 ∧ Da D H (.ref x.2.1) p
/-- at D: a dict with the keys ps -/
def Fd (P : Program) (w : World) (H : Hp) (D : Addr) (ps : List PyData) : Prop := ∃ xs, H D = some (FdO P w D xs) ∧ Paired (FdE D H) xs ps ∧ ps.Nodup
theorem pair_imp {α β : Type} {F G : α → β → Prop} (h : ∀ a b, F a b → G a b) : ∀ {xs : List α} {ys : List β}, Paired F xs ys → Paired G xs ys
  | _, _, .nil => .nil
  | _, _, .cons a t => .cons (h _ _ a) (pair_imp h t)
theorem pair_len {α β : Type} {F : α → β → Prop} : ∀ {xs : List α} {ys : List β}, Paired F xs ys → xs.length = ys.length
  | _, _, .nil => rfl
  | _, _, .cons _ t => congrArg Nat.succ (pair_len t)
theorem Fd.same {P : Program} {w : World} {H H' : Hp} {D : Addr} {ps : List PyData} (s : Same H H') (h : Fd P w H D ps) : Fd P w H' D ps := by
  obtain ⟨xs, h1, h2, h3⟩ := h
  exact ⟨xs, s _ _ h1, pair_imp (fun x p ⟨a, b, c, d, e⟩ => ⟨a, b, c, d, e.same s⟩) h2, h3⟩
theorem Fd.some {P : Program} {w : World} {H : Hp} {D : Addr} {ps : List PyData} (h : Fd P w H D ps) : H D ≠ none := by
  obtain ⟨xs, h1, _⟩ := h
  rw [h1]
  exact fun z => by cases z
theorem fd_keys {D : Addr} {H : Hp} : ∀ {xs : List Ent} {ps : List PyData}, Paired (FdE D H) xs ps → xs.map (·.1) = ps.map nk
  | _, _, .nil => rfl
  | _, _, .cons ⟨a, _⟩ t => by rw [List.map_cons, List.map_cons, a, fd_keys t]
theorem fd_isK {D : Addr} {H : Hp} : ∀ {xs : List Ent} {ps : List PyData}, Paired (FdE D H) xs ps → ∀ p ∈ ps, isK p = true
  | _, _, .nil, p, m => by cases m
  | _, _, .cons ⟨_, _, c, _⟩ t, p, m => by
    rcases List.mem_cons.mp m with rfl | m
    · exact c
    · exact fd_isK t p m
theorem nodup_nk : ∀ {ps : List PyData}, ps.Nodup → (∀ p ∈ ps, isK p = true) → (ps.map nk).Nodup
  | [], _, _ => List.nodup_nil
  | p :: ps, h, g => by
    rw [List.nodup_cons] at h
    rw [List.map_cons, List.nodup_cons]
    refine ⟨fun m => ?_, nodup_nk h.2 fun q hq => g q (List.mem_cons_of_mem _ hq)⟩
    obtain ⟨q, hq, e⟩ := List.mem_map.mp m
    have := nk_inj (g q (List.mem_cons_of_mem _ hq)) (g p (List.mem_cons_self ..)) e
    exact h.1 (this ▸ hq)
def put (ps : List PyData) (p : PyData) : List PyData := if nk p ∈ ps.map nk then ps else ps ++ [p]
section
variable {X : Cx} {pins : List (Addr × Obj)} {σ : L2.St} {H : Hp} {s : Shared} {D : Addr} {ps : List PyData}
theorem fd_all (I : L2.Inv X pins σ H s) : ∀ {xs : List Ent} {ps : List PyData}, Paired (FdE D H) xs ps → ∀ x ∈ xs, (nestedKind X.prog X.w).is s.heap x.1 x.2.1
  | _, _, .nil, x, m => by cases m
  | _, _, .cons ⟨a, b, c, d, e⟩ t, x, m => by
    rcases List.mem_cons.mp m with rfl | m
    · exact ⟨by rw [a]; exact nk_is I e c rfl, by rw [a, nk_dep c]; exact d⟩
    · exact fd_all I t x m
theorem fd_at (I : L2.Inv X pins σ H s) {xs : List Ent} (h1 : H D = some (FdO X.prog X.w D xs)) (h2 : Paired (FdE D H) xs ps) (h3 : ps.Nodup) : (D == sysModules) = false ∧ s.heap.DictOfH (nestedKind X.prog X.w) D xs := by
  obtain ⟨⟨hs, o, es, ep, a1, a2, a3, a4⟩, _, _⟩ := (I.hok D _ h1 : ObjOk X.prog X.w H s.heap D (.ext _))
  exact ⟨hs, o, es, ep, a1, a2, a3, a4, fd_all I h2, by rw [fd_keys h2]; exact nodup_nk h3 (fd_isK h2)⟩
end
section
variable {X : Cx} {pos : Pos}
theorem pe_fnew : PE X (.Dict [] [] pos) (fun _ H Q => ∀ D H', Same H H' → H D = none → Fd X.prog X.w H' D [] → (∀ a v d, Da a H v d → Da D H' v d) → Kp D H' H' → Q (.ref D) H') := ⟨fun pins s σ H Q I h =>
  wpAny_Dict_empty ⟨.ref s.heap.objs.size, _, I.laid (a := s.heap.objs.size) (o := FdO X.prog X.w s.heap.objs.size []) (t' := s.toks) (fun _ _ q => Heap.get?_push_of_some _ q) (Nat.le_refl _)
      (fd_ok (es := #[]) (ep := 0) (beq_eq_false_iff_ne.mpr (Ne.symm (Nat.ne_of_lt I.big))) (Heap.get?_push_size _ rfl) ⟨rfl, rfl, rfl⟩ rfl rfl), rfl,
    have n := I.hok.fresh (Nat.le_refl _)
    h _ _ (same_new n) n ⟨[], upd_same, .nil, List.nodup_nil⟩ (fun a v d hd => (da_new n hd).same (same_new n)) (Kp.refl _ _)⟩⟩
/-- d[k] = True -/
def tFput (P : Program) (w : World) (td ty tv : TE) : TS := fun D σ H => tv σ H fun v H1 => td σ H1 fun x H2 => ty σ H2 fun y H3 => ∃ (a b : Addr) (p : PyData) (ps : List PyData), v = .bl true ∧ x = .ref a ∧ y = .ref b ∧ Da a H3 (.ref b) p ∧ isK p = true ∧ dep p ≤ 8 ∧
  Fd P w H3 a ps ∧ ps.length ≤ 100000 ∧ ∀ H4, Kp a H3 H4 → Fd P w H4 a (put ps p) → D.nx σ H4
theorem at_key {D : Addr} {H : Hp} {p : PyData} : ∀ {xs : List Ent} {ps : List PyData}, Paired (FdE D H) xs ps → ((atKey xs (nk p)).isSome = true ↔ nk p ∈ ps.map nk)
  | _, _, .nil => by simp [atKey]
  | x :: xs, q :: ps, .cons ⟨a, _⟩ t => by
    have ih := at_key (p := p) t
    unfold atKey at ih ⊢
    rw [List.find?_cons]
    by_cases e : x.1 = nk p
    · rw [decide_eq_true e]
      simp [← e, a]
    · rw [decide_eq_false e]
      have e2 : ¬ nk p = nk q := fun z => e (by rw [a, z])
      rw [List.map_cons, List.mem_cons]
      simp only [e2, false_or]
      exact ih
theorem put_same {D : Addr} {H : Hp} {k : NestedKey} : ∀ {xs : List Ent} {ps : List PyData}, Paired (FdE D H) xs ps → xs.map (putAt k (.bool true)) = xs
  | _, _, .nil => rfl
  | x :: xs, q :: ps, .cons ⟨_, b, _⟩ t => by
    rw [List.map_cons, put_same t]
    congr 1
    unfold putAt
    split
    · rw [← b]
    · rfl
theorem pair_snoc {α β : Type} {F : α → β → Prop} {a : α} {b : β} (h : F a b) : ∀ {xs : List α} {ys : List β}, Paired F xs ys → Paired F (xs ++ [a]) (ys ++ [b])
  | _, _, .nil => .cons h .nil
  | _, _, .cons x t => .cons x (pair_snoc h t)
theorem ps_fput {o i e : Expr} {pos' : Pos} {td ty tv : TE} (hu : X.A.units + 20 < cLine) (ho : PE X o td) (hi : PE X i ty) (hv : PE X e tv) (hs : swapsWith e (some (.Subscript o i pos')) pos.line X.env = pure false := by rfl) :
    PS X (.Assign [.Subscript o i pos'] e pos) (tFput X.prog X.w td ty tv) := by
  refine ⟨fun pins s σ H D I h => ?_⟩
  refine wpAny_Assign_Subscript (thn (hv.run pins s σ H _ I h) fun r s1 ⟨v, H1, I1, rv, q1⟩ => thn (ho.run pins s1 σ H1 _ I1 q1) fun u s2 ⟨x, H2, I2, rx, q2⟩ => thn (hi.run pins s2 σ H2 _ I2 q2) fun iv s3 ⟨y, H3, I3, ry, z⟩ => ?_) hs
  obtain ⟨a, b, p, ps, rfl, rfl, rfl, dp, kp, hdp, ⟨xs, h1, h2, h3⟩, hl, q⟩ := z
  obtain rfl : u = Value.ref a := rx
  obtain rfl : iv = Value.ref b := ry
  obtain rfl : r = Value.bool true := rv
  obtain ⟨hsm, dd⟩ := fd_at I3 h1 h2 h3
  have hz : xs.length ≤ sizeLine := sz (by rw [pair_len h2]; exact hl)
  refine wpAny_setItem_heap (knd := nestedKind X.prog X.w) (hsz := hz) (k := nk p) (show X.A.units + 1 + 8 < cLine by omega) ⟨nk_is I3 dp kp rfl, by rw [nk_dep kp]; exact hdp⟩ dd fun h' dd' hs' => ?_
  obtain ⟨q', es, ep, hq, g2, g3, g4, _, _⟩ := dd'
  have I4 := d_write (t' := s3.toks + (nestedKind X.prog X.w).draws (nk p)) (ob := FdO X.prog X.w a (storedH xs (nk p) b (.bool true))) I3 (by rw [h1]; exact True.intro) hs' ⟨q', hq⟩ (fd_ok hsm hq g2 g3 g4)
  have kp4 : Kp a H3 (upd H3 a (FdO X.prog X.w a (storedH xs (nk p) b (.bool true)))) := fun c oc nc ec => by rw [upd_ne nc]; exact ec
  refine ⟨σ, _, I4, q _ kp4 ⟨_, upd_same, ?_, ?_⟩⟩
  · have h2' : Paired (FdE a (upd H3 a (FdO X.prog X.w a (storedH xs (nk p) b (.bool true))))) xs ps := pair_imp (fun x p ⟨a1, a2, a3, a4, a5⟩ => ⟨a1, a2, a3, a4, a5.kp kp4⟩) h2
    unfold put
    by_cases m : nk p ∈ ps.map nk
    · rw [if_pos m]
      have e : storedH xs (nk p) b (.bool true) = xs := by
        unfold storedH
        rw [if_pos ((at_key h2).mpr m), put_same h2]
      rw [e] at h2' ⊢
      exact h2'
    · rw [if_neg m]
      have e : storedH xs (nk p) b (.bool true) = xs ++ [(nk p, b, .bool true)] := by
        unfold storedH
        rw [if_neg fun z => m ((at_key h2).mp z)]
      rw [e] at h2' kp4 ⊢
      exact pair_snoc ⟨rfl, rfl, kp, hdp, dp.kp kp4⟩ h2'
  · unfold put
    by_cases m : nk p ∈ ps.map nk
    · rw [if_pos m]; exact h3
    · rw [if_neg m, List.nodup_append]
      refine ⟨h3, List.nodup_cons.mpr ⟨(fun z => nomatch z), List.nodup_nil⟩, fun c hc d hd => ?_⟩
      rw [List.mem_singleton.mp hd]
      exact fun e => m (by rw [← e]; exact List.mem_map_of_mem hc)
/-- len(d) -/
def rLenF (P : Program) (w : World) : List V → Hp → VK → Prop := fun xs H Q => ∃ D ps, xs = [.ref D] ∧ Fd P w H D ps ∧ ps.length ≤ 100000 ∧ Q (.int ((ps.length : Nat) : Int)) H
theorem call_lenF : CallR X (.builtin "len") (rLenF X.prog X.w) := by
  intro pins s σ H xs us Q I r h
  obtain ⟨D, ps, rfl, ⟨ys, h1, h2, h3⟩, hl, q⟩ := h
  obtain ⟨u, rfl, rx⟩ := vals1 r
  obtain rfl : u = .ref D := rx
  obtain ⟨hsm, dd⟩ := fd_at I h1 h2 h3
  have e := pair_len h2
  refine call_len_dictH hsm dd (by rw [e]; omega) ?_
  rw [e]
  exact ⟨.int _, H, (I.tok _), ⟨_, rfl⟩, q⟩
/-- list(d) -/
def rListF (P : Program) (w : World) : List V → Hp → VK → Prop := fun xs H Q => ∃ D ps, xs = [.ref D] ∧ Fd P w H D ps ∧ ps.length ≤ 100000 ∧ ∀ l ys, H l = none → DaAll D H ys ps → Q (.ref l) (upd H l (.lst ys))
theorem refs_da {D : Addr} {H : Hp} : ∀ {xs : List Ent} {ps : List PyData}, Paired (FdE D H) xs ps → DaAll D H (xs.map fun x => V.ref x.2.1) ps
  | _, _, .nil => .nil
  | _, _, .cons ⟨_, _, _, _, e⟩ t => .cons e (refs_da t)
theorem refs_vals : ∀ {us : List Value} {xs : List Ent}, us.length = xs.length → (∀ (i : Nat) (u : Value), us[i]? = some u → ∃ x, xs[i]? = some x ∧ u = .ref x.2.1) → Vals (xs.map fun x => V.ref x.2.1) us
  | [], [], _, _ => .nil
  | [], _ :: _, h, _ => by simp at h
  | _ :: _, [], h, _ => by simp at h
  | u :: us, x :: xs, h, g => by
    refine .cons ?_ (refs_vals (by simpa using h) fun i v e => by simpa using g (i + 1) v (by simpa using e))
    obtain ⟨y, h1, h2⟩ := g 0 u rfl
    obtain rfl : x = y := by simpa using h1
    exact h2
theorem call_listF (hc : X.calm = true) : CallR X (.type "list") (rListF X.prog X.w) := by
  intro pins s σ H xs us Q I r h
  obtain ⟨D, ps, rfl, ⟨ys, h1, h2, h3⟩, hl, q⟩ := h
  obtain ⟨u, rfl, rx⟩ := vals1 r
  obtain rfl : u = .ref D := rx
  obtain ⟨hsm, dd⟩ := fd_at I h1 h2 h3
  have e := pair_len h2
  obtain ⟨es, ep, hr, hs, he⟩ := dd.raw
  refine PySem.W.kdl_call (PySem.KdlSrc.rawDict hsm) (I.ok.hd hc) hr (by rw [hs, e]; exact sz hl) fun h' tk acc c' keep hn ⟨z1, z2⟩ => ?_
  have hv : Vals (ys.map fun x => V.ref x.2.1) acc.toList := by
    refine refs_vals (by rw [Array.length_toList, z1, hs]) fun i v hi => ?_
    obtain ⟨hj, rfl⟩ := z2 i v (by rw [← Array.getElem?_toList]; exact hi)
    obtain ⟨y, hy, g1, _⟩ := he i hj
    exact ⟨y, hy, g1⟩
  refine ⟨.ref s.heap.objs.size, _, I.laid (t' := tk) keep (Nat.le_refl _) (show ObjOk X.prog X.w _ h' _ (.lst (ys.map fun x => V.ref x.2.1)) from ⟨sz (by rw [List.length_map, e]; exact hl), acc.toList, c', hv, by rw [Array.toArray_toList]; exact hn⟩), rfl, q _ _ (I.hok.fresh (Nat.le_refl _)) (refs_da h2)⟩
end
end Tw

set_option Elab.async false
set_option linter.all false
set_option maxRecDepth 100000
set_option maxHeartbeats 8000000
local macro_rules | `(tactic| walk_at "rd") => `(tactic| dsimp only [Evl.tCut, L2.tSeq, L2.tNext, L2.tRet, L2.tRetN, L2.tAsg, L2.gName, L2.tIfS, L2.tDrop, L2.tCons, L2.tNil, L2.tC, L2.tVar, L2.tCB, L2.tAndV, L2.tOrV, L2.tNotV, L2.tB, L2.tTest, L2.tOp, L2.tUn, L2.tNot, L2.tAnd, L2.tOr, L2.tIf, L2.tCall, L2.tTup, L2.tLst, L2.tNotT, L2.tYes, L2.gTup, L2.gCons, L2.gNil, L2.gSub, L2.tBM0, L2.tBM, L2.tWhile, L2.tFor, L2.iRng1, L2.iRng2, L2.tAugS, Tw.iEnumT, L2.tCKw, L2.tAug, L2.ipI, RT.iRevA, L2.tPar, L2.tPar3, L2.tSl, L2.tNoPart, L2.tPart, Tw.tRevT, Tw.tFput])
namespace K44
open PySem PySem.Spec PyProof.Rows L2 Tw
def top (i : Nat) : Stmt := PySem.Challenge.pw_twoletters_k44_whole_exchanged_put_and_p.main.body.getD i (.Pass ⟨0, 0, 0, 0⟩)
abbrev sWhole : Stmt := top 8
abbrev sFraction : Stmt := top 9
abbrev sPower : Stmt := top 10
abbrev sTrim : Stmt := top 12
abbrev sScaled : Stmt := top 13
abbrev sRow : Stmt := top 15
abbrev sPTrim : Stmt := top 18
abbrev sPEx : Stmt := top 19
abbrev sPoly : Stmt := top 21
abbrev sCheckF : Stmt := top 22
abbrev sWidth : Stmt := top 27
abbrev sDepthIn : Stmt := top 28
abbrev sSEx : Stmt := top 29
abbrev sPPut : Stmt := top 30
abbrev sSPut : Stmt := top 31
abbrev sSPush : Stmt := top 32
abbrev sSmall : Stmt := top 37
abbrev sIsLetter : Stmt := top 38
abbrev sFit : Stmt := top 39
abbrev sUnlike : Stmt := top 40
abbrev sCheck : Stmt := top 41
abbrev sCheckL : Stmt := top 42
abbrev sDepthOf : Stmt := top 43
abbrev sExch : Stmt := top 44
abbrev sPutFor : Stmt := top 45
abbrev sPushed : Stmt := top 46
abbrev sWell : Stmt := top 48
abbrev sDraw : Stmt := top 49
abbrev sPick : Stmt := top 50
abbrev sShare : Stmt := top 51
abbrev sLean : Stmt := top 52
abbrev sLRow : Stmt := top 53
abbrev sNumber : Stmt := top 54
abbrev sLPoly : Stmt := top 55
abbrev sLeaf : Stmt := top 56
abbrev sMade : Stmt := top 57
abbrev sTurned : Stmt := top 58
abbrev sSwapped : Stmt := top 59
abbrev sLScaled : Stmt := top 60
abbrev sLPut : Stmt := top 61
abbrev sFilled : Stmt := top 62
abbrev sLed : Stmt := top 63
abbrev sRight : Stmt := top 64
abbrev sLaw : Stmt := top 65
/-- built-in names that the text gives no other meaning -/
structure Nb (mg : Str → Option Value) : Prop where
  isi : mg "isinstance" = none
  int : mg "int" = none
  bool : mg "bool" = none
  str : mg "str" = none
  tup : mg "tuple" = none
  all : mg "all" = none
  len : mg "len" = none
  lst : mg "list" = none
  dvm : mg "divmod" = none
  rng : mg "range" = none
  max : mg "max" = none
  min : mg "min" = none
  abs : mg "abs" = none
  repr : mg "repr" = none
  rev : mg "reversed" = none
/-! ### what the answers are -/
def wholeB (d : PyData) : Bool := isIntD d && !isBoolD d
def lastD (ds : List PyData) (d : PyData) : Bool := match ds.getLast? with
  | some e => !(PyData.eqv e d)
  | none => true
def rowB : PyData → Bool
  | .tuple ds => (ds.map wholeB).all id && lastD ds (.int 0)
  | _ => false
def polyB : PyData → Bool
  | .tuple ds => (ds.map rowB).all id && lastD ds (.tuple [])
  | _ => false
/-- the answer is f of the datum -/
def spB (f : PyData → Bool) : Sp := fun vs H Q _ => ∃ a v d m, vs = [v] ∧ Da a H v d ∧ Sm m 1000 d ∧ ∀ H', Same H H' → Q (.bl (f d)) H'

theorem getLast_get {α : Type} {xs : List α} {x : α} (h : xs.getLast? = some x) : xs[xs.length - 1]? = some x := by
  rw [← List.getLast?_eq_getElem?]; exact h
theorem atI_end {α : Type} {xs : List α} {x : α} (h : xs.getLast? = some x) : atI xs (-1) = some x := by
  obtain ⟨ys, rfl⟩ := List.getLast?_eq_some_iff.mp h
  exact atI_last _ _
theorem last_both {a : Addr} {H : Hp} {xs : List V} {ds : List PyData} (h : DaAll a H xs ds) (ne : ds ≠ []) : ∃ x d, xs.getLast? = some x ∧ ds.getLast? = some d ∧ d ∈ ds ∧ Da a H x d := by
  have l := h.len
  have hp : 0 < ds.length := List.length_pos_iff.mpr ne
  have hx : xs.length - 1 < xs.length := by omega
  obtain ⟨d, e1, e2⟩ := h.get (List.getElem?_eq_getElem hx)
  refine ⟨xs[xs.length - 1], d, ?_, ?_, List.mem_of_getElem? e1, e2⟩
  · rw [List.getLast?_eq_getElem?]; exact List.getElem?_eq_getElem hx
  · rw [List.getLast?_eq_getElem?, ← l]; exact e1
section
variable {P : Program} {w : World} {K : PySem.W.Frag} {mg : Str → Option Value} {base : Heap}
theorem scWhole : FnScope ["value"] ["value"] (defScope sWhole) := ⟨rfl, rfl, rfl, by decide +kernel, rfl, by decide +kernel, by decide +kernel⟩
theorem ok_whole (D : Def K mg "is_whole" sWhole ["value"]) (nb : Nb mg) : Cal P w K mg base "is_whole" 1 ["value"] (spB wholeB) := by
  refine D.ok scWhole (fun vs H Q E h => ?_) (fun f cdv A out s H vs Q E hr h => ?_)
  · obtain ⟨a, v, d, m, rfl, _⟩ := h; rfl
  obtain ⟨a, v, d, m, rfl, hd, hs, q⟩ := h
  refine ⟨_, pss_one (ps_ret (pe_and (pe_callB (id := "isinstance") (r := rIsi K) call_isi (by rfl) nb.isi (by decide +kernel) (pa_cons (pv 0) (pa_cons (pe_bltn (v := .ty "int") (by rfl) nb.int (by decide +kernel) rfl) pa_nil)))
    (pe_one (pe_not (pe_callB (id := "isinstance") (r := rIsi K) call_isi (by rfl) nb.isi (by decide +kernel) (pa_cons (pv 0) (pa_cons (pe_bltn (v := .ty "bool") (by rfl) nb.bool (by decide +kernel) rfl) pa_nil))))))), ?_⟩
  walk_at "rd"
  refine ⟨v, rfl, isi hd (isi_int d) ⟨isIntD d, rfl, ?_⟩⟩
  have q' := q H (Same.refl H)
  unfold wholeB at q'
  cases hi : isIntD d with
  | false => rw [hi] at q'; exact iteF q'
  | true =>
    rw [hi] at q'
    refine iteT ⟨v, rfl, isi hd (isi_bool d) ⟨isBoolD d, rfl, q'⟩⟩

theorem tup_of {a : Addr} {H : Hp} {v : V} {d : PyData} (h : Da a H v d) (t : isTupD d = true) : ∃ p xs ds, v = .ref p ∧ d = .tuple ds ∧ p ≠ a ∧ H p = some (.tup xs) ∧ DaAll a H xs ds := by
  cases h with
  | tup n e r => exact ⟨_, _, _, rfl, rfl, n, e, r⟩
  | _ => exact absurd t (by simp [isTupD])
theorem int_of {a : Addr} {H : Hp} {v : V} {d : PyData} (h : Da a H v d) (t : wholeB d = true) : ∃ i, v = .int i ∧ d = .int i := by
  cases h with
  | int i => exact ⟨i, rfl, rfl⟩
  | _ => exact absurd t (by simp [wholeB, isIntD, isBoolD])
theorem not_tup {d : PyData} (h : isTupD d = false) : rowB d = false ∧ polyB d = false := by
  cases d <;> first | exact ⟨rfl, rfl⟩ | cases h
theorem row_tup {d : PyData} (h : rowB d = true) : isTupD d = true := by
  cases d <;> first | rfl | cases h
theorem all_mem {f : PyData → Bool} {ds : List PyData} {d : PyData} (h : (ds.map f).all id = true) (m : d ∈ ds) : f d = true := by
  rw [List.all_eq_true] at h
  exact h (f d) (List.mem_map_of_mem m)
theorem empty_iff {a : Addr} {H : Hp} {xs : List V} {ds : List PyData} (h : DaAll a H xs ds) : xs.isEmpty = ds.isEmpty := by
  cases h <;> rfl
theorem wipe1 (σ : L2.St) (j : Nat) (x : V) : wipe ((wipe σ [j]).set j (some x)) [j] = wipe σ [j] := by
  show ((σ.set j none).set j (some x)).set j none = σ.set j none
  rw [List.set_set, List.set_set]

theorem scRow : FnScope ["value", "number"] ["value"] (defScope sRow) := ⟨rfl, rfl, rfl, by decide +kernel, rfl, by decide +kernel, by decide +kernel⟩
theorem ok_row (D : Def K mg "is_row" sRow ["value"]) (nb : Nb mg) (c1 : Cal P w K mg base "is_whole" 1 ["value"] (spB wholeB)) : Cal P w K mg base "is_row" 2 ["value"] (spB rowB) := by
  refine D.ok scRow (fun vs H Q E h => ?_) (fun f cdv A out s H vs Q E hr h => ?_)
  · obtain ⟨a, v, d, m, rfl, _⟩ := h; rfl
  obtain ⟨a, v, d, m, rfl, hd, hs, q⟩ := h
  refine ⟨_, pss_cons (ps_if (PW.pt (pw_or (pt_not (pt_val (pe_callB (id := "isinstance") (r := rIsi K) call_isi (by rfl) nb.isi (by decide +kernel) (pa_cons (pv 0) (pa_cons (pe_bltn (v := .ty "tuple") (by rfl) nb.tup (by decide +kernel) rfl) pa_nil)))))
      (pw_or1 (pt_not (pt_val (pe_callB (cr_all rfl) (by rfl) nb.all (by decide +kernel) (pa_cons
        (pe_lc (own := [("number", 1)]) (g := gName 1) (tt := tYes) rfl scRow.nd (pi_tup (pv 0)) (blkOk_by (N := ["value", "number"]) (sc := defScope sRow) (by decide +kernel))
          (fun _ _ _ _ _ => pg_name (i := 1) scRow.nd rfl (Or.inl rfl)) (fun _ _ _ _ _ => pts_nil) (fun _ _ _ _ _ => pe_cal c1 hr (Nat.le_refl 1) (by rfl) (pa_cons (pv 1) pa_nil))) pa_nil)))))))
      (pss_one (ps_ret pe_bl)) pss_nil)
    (pss_one (ps_ret (pe_or (pe_notT (pv 0)) (pe_one (pe_cmpR op_ne (pe_ix ix_tup (pv 0) (pe_un un_neg pe_int) (fun _ _ => rfl)) pe_int (nomark _)))))), ?_⟩
  walk_at "rd"
  refine ⟨v, rfl, isi hd (isi_tup d) ⟨isTupD d, rfl, ?_⟩⟩
  cases ht : isTupD d with
  | false =>
    have q' := q H (Same.refl H)
    rw [(not_tup ht).1] at q'
    exact iteT (iteT q')
  | true =>
    obtain ⟨p, xs, ds, rfl, rfl, np, hp, hx⟩ := tup_of hd ht
    have hn : xs.length < 100000 := by rw [hx.len]; have := hs.len; omega
    refine iteF (lc_mapT (fun d => V.bl (wholeB d)) rfl hp hx hn (wipe1 _ 1) (fun x d H1 hm s1 dx R k => ?_) fun L H1 s1 nL hL => ?_)
    · exact ⟨x, rfl, a, x, d, _, rfl, dx, hs.mem hm, k⟩
    refine ⟨L, ds.map wholeB, rfl, SqL.of (by rw [List.map_map]; exact hL), _, rfl, ?_⟩
    have q' : Q (.bl ((ds.map wholeB).all id && lastD ds (.int 0))) H1 := q H1 s1
    cases hw : (ds.map wholeB).all id with
    | false => rw [hw] at q'; exact iteT q'
    | true =>
      rw [hw] at q'
      refine iteF ⟨.ref p, rfl, _, .inr (.inl ⟨xs, SqT.of (s1 _ _ hp), rfl⟩), _, rfl, ?_⟩
      rw [empty_iff hx, Bool.not_not]
      cases hds : ds with
      | nil => subst hds; exact iteT q'
      | cons d0 dr =>
        have ne : ds ≠ [] := by rw [hds]; simp
        obtain ⟨x, dl, e1, e2, e3, e4⟩ := last_both hx ne
        obtain ⟨i, rfl, rfl⟩ := int_of e4 (all_mem hw e3)
        refine iteF ⟨.ref p, rfl, 1, rfl, p, xs, -1, .int i, rfl, rfl, SqT.of (s1 _ _ hp), atI_end e1, rfl, ?_⟩
        unfold lastD at q'
        rw [e2] at q'
        rw [dec_int]
        simpa [PyData.eqv] using q'

/-- not value or value[-1] != 0, both ways of saying it: what is asked of the last number -/
theorem end_int {a p : Addr} {H : Hp} {Q : VK} {xs : List V} {ds : List PyData} (hx : DaAll a H xs ds) (hp : H p = some (.tup xs)) (ne : ds ≠ []) (hw : (ds.map wholeB).all id = true)
    (q : Q (.bl (lastD ds (.int 0))) H) : rIxT K (.ref p) (.int (-1)) H fun x H1 => rNe x (.int 0) H1 Q := by
  obtain ⟨x, dl, e1, e2, e3, e4⟩ := last_both hx ne
  obtain ⟨i, rfl, rfl⟩ := int_of e4 (all_mem hw e3)
  refine ⟨p, xs, -1, .int i, rfl, rfl, SqT.of hp, atI_end e1, rfl, ?_⟩
  unfold lastD at q
  rw [e2] at q
  rw [dec_int]
  simpa [PyData.eqv] using q

theorem end_row {a p : Addr} {H : Hp} {Q : VK} {xs : List V} {ds : List PyData} (hx : DaAll a H xs ds) (hp : H p = some (.tup xs)) (ne : ds ≠ []) (hw : (ds.map rowB).all id = true)
    (q : ∀ H', Same H H' → Q (.bl (lastD ds (.tuple []))) H') :
    rIxT K (.ref p) (.int (-1)) H fun x H1 => ([] : List V).length ≤ sizeLine ∧ ∀ t, H1 t = none → rT0 true K x (.ref t) (upd H1 t (.tup [])) Q := by
  obtain ⟨x, dl, e1, e2, e3, e4⟩ := last_both hx ne
  obtain ⟨p2, xs2, ds2, rfl, rfl, np2, hp2, hx2⟩ := tup_of e4 (row_tup (all_mem hw e3))
  refine ⟨p, xs, -1, .ref p2, rfl, rfl, SqT.of hp, atI_end e1, sz (by decide), fun t nt => ?_⟩
  have s2 := same_new (o := .tup []) nt
  refine ⟨p2, t, xs2, [], rfl, rfl, SqT.of (s2 _ _ hp2), SqT.of upd_same, rfl, ?_⟩
  have q' := q _ s2
  unfold lastD at q'
  rw [e2] at q'
  cases hx2 with
  | nil => simpa [PyData.eqv, PyData.eqvAll] using q'
  | cons _ _ => simpa [PyData.eqv, PyData.eqvAll] using q'
theorem scPoly : FnScope ["value", "row"] ["value"] (defScope sPoly) := ⟨rfl, rfl, rfl, by decide +kernel, rfl, by decide +kernel, by decide +kernel⟩
theorem ok_poly (D : Def K mg "is_poly" sPoly ["value"]) (nb : Nb mg) (c1 : Cal P w K mg base "is_row" 2 ["value"] (spB rowB)) : Cal P w K mg base "is_poly" 3 ["value"] (spB polyB) := by
  refine D.ok scPoly (fun vs H Q E h => ?_) (fun f cdv A out s H vs Q E hr h => ?_)
  · obtain ⟨a, v, d, m, rfl, _⟩ := h; rfl
  obtain ⟨a, v, d, m, rfl, hd, hs, q⟩ := h
  refine ⟨_, pss_cons (ps_if (PW.pt (pw_or (pt_not (pt_val (pe_callB (id := "isinstance") (r := rIsi K) call_isi (by rfl) nb.isi (by decide +kernel) (pa_cons (pv 0) (pa_cons (pe_bltn (v := .ty "tuple") (by rfl) nb.tup (by decide +kernel) rfl) pa_nil)))))
      (pw_or1 (pt_not (pt_val (pe_callB (cr_all rfl) (by rfl) nb.all (by decide +kernel) (pa_cons
        (pe_lc (own := [("row", 1)]) (g := gName 1) (tt := tYes) rfl scPoly.nd (pi_tup (pv 0)) (blkOk_by (N := ["value", "row"]) (sc := defScope sPoly) (by decide +kernel))
          (fun _ _ _ _ _ => pg_name (i := 1) scPoly.nd rfl (Or.inl rfl)) (fun _ _ _ _ _ => pts_nil) (fun _ _ _ _ _ => pe_cal c1 hr (Nat.le_refl 2) (by rfl) (pa_cons (pv 1) pa_nil))) pa_nil)))))))
      (pss_one (ps_ret pe_bl)) pss_nil)
    (pss_one (ps_ret (pe_or (pe_notT (pv 0)) (pe_one (pe_cmpR (op_neT0 hr.units) (pe_ix ix_tup (pv 0) (pe_un un_neg pe_int) (fun _ _ => rfl)) (pe_tup pa_nil) (nomark _)))))), ?_⟩
  walk_at "rd"
  refine ⟨v, rfl, isi hd (isi_tup d) ⟨isTupD d, rfl, ?_⟩⟩
  cases ht : isTupD d with
  | false =>
    have q' := q H (Same.refl H)
    rw [(not_tup ht).2] at q'
    exact iteT (iteT q')
  | true =>
    obtain ⟨p, xs, ds, rfl, rfl, np, hp, hx⟩ := tup_of hd ht
    have hn : xs.length < 100000 := by rw [hx.len]; have := hs.len; omega
    refine iteF (lc_mapT (fun d => V.bl (rowB d)) rfl hp hx hn (wipe1 _ 1) (fun x d H1 hm s1 dx R k => ?_) fun L H1 s1 nL hL => ?_)
    · exact ⟨x, rfl, a, x, d, _, rfl, dx, hs.mem hm, k⟩
    refine ⟨L, ds.map rowB, rfl, SqL.of (by rw [List.map_map]; exact hL), _, rfl, ?_⟩
    have q' : ∀ H', Same H H' → Q (.bl ((ds.map rowB).all id && lastD ds (.tuple []))) H' := q
    cases hw : (ds.map rowB).all id with
    | false => rw [hw] at q'; exact iteT (q' _ s1)
    | true =>
      rw [hw] at q'
      refine iteF ⟨.ref p, rfl, _, .inr (.inl ⟨xs, SqT.of (s1 _ _ hp), rfl⟩), _, rfl, ?_⟩
      rw [empty_iff hx, Bool.not_not]
      cases hds : ds with
      | nil => subst hds; exact iteT (q' _ s1)
      | cons d0 dr =>
        have ne : ds ≠ [] := by rw [hds]; simp
        exact iteF ⟨.ref p, rfl, 1, rfl, end_row (hx.same s1) (s1 _ _ hp) ne hw fun H' s2 => q' _ (s1.trans s2)⟩
end
end K44

set_option Elab.async false
set_option linter.all false
set_option maxRecDepth 100000
set_option maxHeartbeats 8000000
local macro_rules | `(tactic| walk_at "rd") => `(tactic| dsimp only [Evl.tCut, L2.tSeq, L2.tNext, L2.tRet, L2.tRetN, L2.tAsg, L2.gName, L2.tIfS, L2.tDrop, L2.tCons, L2.tNil, L2.tC, L2.tVar, L2.tCB, L2.tAndV, L2.tOrV, L2.tNotV, L2.tB, L2.tTest, L2.tOp, L2.tUn, L2.tNot, L2.tAnd, L2.tOr, L2.tIf, L2.tCall, L2.tTup, L2.tLst, L2.tNotT, L2.tYes, L2.gTup, L2.gCons, L2.gNil, L2.gSub, L2.tBM0, L2.tBM, L2.tWhile, L2.tFor, L2.iRng1, L2.iRng2, L2.tAugS, Tw.iEnumT, L2.tCKw, L2.tAug, L2.ipI, RT.iRevA, L2.tPar, L2.tPar3, L2.tSl, L2.tNoPart, L2.tPart, Tw.tRevT, Tw.tFput])
namespace K44
open PySem PySem.Spec PyProof.Rows L2 Tw
/-! sayings -/
inductive Say where
  | tt | ff
  | nn (s : Say)
  | bo (b : Bool) (s t : Say)
  | qu (al x : Bool) (s : Say)
  | re (w : Str) (p : PyData)
def rels : List Str := ["below", "at", "above", "not below", "not at", "not above"]
def words : List Str := ["true", "false", "not", "both", "either", "all", "some"]
def rowsOf : PyData → List PyData
  | .tuple ds => ds
  | _ => []
def lenD : PyData → Nat
  | .tuple ds => ds.length
  | _ => 0
def widD (p : PyData) : Nat := (rowsOf p).foldr (fun r m => max (lenD r) m) 0
def smallB (p : PyData) : Bool := polyB p && decide (lenD p ≤ 5) && decide (widD p ≤ 5)
def b0 (s : Say) (rest : List PyData) : Option Say := if rest.isEmpty then some s else none
def b1 (f : Say → Say) (rs : List (Option Say)) : Option Say := match rs with
  | [o] => o.map f
  | _ => none
def b2 (f : Say → Say → Say) (rs : List (Option Say)) : Option Say := match rs with
  | [o, u] => match o, u with
    | some s, some t => some (f s t)
    | _, _ => none
  | _ => none
def letOf (d : PyData) : Option Bool := match d with
  | .str l => if l = "x" then some true else if l = "y" then some false else none
  | _ => none
def bq (al : Bool) (rest : List PyData) (rs : List (Option Say)) : Option Say := match rest with
  | [l, _] => match rs with
    | [_, o] => match letOf l, o with
      | some x, some s => some (.qu al x s)
      | _, _ => none
    | _ => none
  | _ => none
def br (w : Str) (rest : List PyData) : Option Say := match rest with
  | [p] => if smallB p then some (.re w p) else none
  | _ => none
def bw (w : Str) (rest : List PyData) (rs : List (Option Say)) : Option Say :=
  if w = "true" then b0 .tt rest else if w = "false" then b0 .ff rest else if w = "not" then b1 .nn rs
  else if w = "both" then b2 (.bo true) rs else if w = "either" then b2 (.bo false) rs
  else if w = "all" then bq true rest rs else if w = "some" then bq false rest rs
  else if w ∈ rels then br w rest else none
def build (ds : List PyData) (os : List (Option Say)) : Option Say := match ds with
  | d :: rest => match d with
    | .str w => bw w rest os.tail
    | _ => none
  | [] => none
mutual
def say : PyData → Option Say
  | .tuple ds => build ds (says ds)
  | _ => none
def says : List PyData → List (Option Say)
  | [] => []
  | d :: ds => say d :: says ds
end
def Say.d : Say → PyData
  | .tt => .tuple [.str "true"]
  | .ff => .tuple [.str "false"]
  | .nn s => .tuple [.str "not", s.d]
  | .bo b s t => .tuple [.str (if b then "both" else "either"), s.d, t.d]
  | .qu al x s => .tuple [.str (if al then "all" else "some"), .str (if x then "x" else "y"), s.d]
  | .re w p => .tuple [.str w, p]
def Say.depth : Say → Nat
  | .nn s => 1 + s.depth
  | .bo _ s t => 1 + max s.depth t.depth
  | .qu _ _ s => 1 + s.depth
  | _ => 1
def inK (ps : List PyData) (q : PyData) : Bool := decide (nk q ∈ ps.map nk)
/-- the new ones behind -/
def un (ps qs : List PyData) : List PyData := ps ++ qs.filter fun q => !inK ps q
def Say.polys : Say → List PyData
  | .nn s => s.polys
  | .bo _ s t => un s.polys t.polys
  | .qu _ _ s => s.polys
  | .re _ p => [p]
  | _ => []
def Say.free (x : Bool) : Say → Bool
  | .nn s => s.free x
  | .bo _ s t => s.free x || t.free x
  | .qu _ y s => (y != x) && s.free x
  | .re _ p => if x then decide (1 < widD p) else decide (1 < lenD p)
  | _ => false
/-- each relation's word is one of the six, each poly a small one -/
def Say.ok : Say → Prop
  | .nn s => s.ok
  | .bo _ s t => s.ok ∧ t.ok
  | .qu _ _ s => s.ok
  | .re w p => w ∈ rels ∧ smallB p = true
  | _ => True
theorem words_apart : ∀ w ∈ rels, w ∉ words := by decide
theorem Say.depth_pos : ∀ s : Say, 1 ≤ s.depth
  | .tt => Nat.le_refl _
  | .ff => Nat.le_refl _
  | .nn s => by rw [Say.depth]; omega
  | .bo _ s t => by rw [Say.depth]; omega
  | .qu _ _ s => by rw [Say.depth]; omega
  | .re _ _ => Nat.le_refl _
theorem says_nil {ds : List PyData} (h : says ds = []) : ds = [] := by
  cases ds with
  | nil => rfl
  | cons d r => simp [says] at h
theorem says_len : ∀ ds : List PyData, (says ds).length = ds.length
  | [] => rfl
  | d :: ds => by rw [says, List.length_cons, List.length_cons, says_len ds]
theorem letOf_some {d : PyData} {x : Bool} (h : letOf d = some x) : d = .str (if x then "x" else "y") := by
  unfold letOf at h
  split at h
  · split at h
    · rename_i e; cases h; subst e; rfl
    · split at h
      · rename_i e; cases h; subst e; rfl
      · cases h
  · cases h
theorem build_some {ds : List PyData} {s : Say} (H : ∀ (i : Nat) (t : Say), (says ds)[i]? = some (some t) → ∃ d, ds[i]? = some d ∧ d = t.d ∧ t.ok) (h : build ds (says ds) = some s) : PyData.tuple ds = s.d ∧ s.ok := by
  unfold build at h
  split at h
  · rename_i d rest
    split at h
    · rename_i w
      rw [says, List.tail_cons] at h
      have hl := says_len rest
      have g1 : ∀ f, b1 f (says rest) = some s → ∃ t, rest = [t.d] ∧ t.ok ∧ s = f t := fun f e => by
        unfold b1 at e
        split at e
        · rename_i o eo
          cases o with
          | none => cases e
          | some t =>
            obtain rfl : f t = s := by simpa using e
            obtain ⟨x, h1, h2⟩ := H 1 t (by rw [says, eo]; rfl)
            rw [eo] at hl
            match rest, hl, h1 with
            | [y], _, h1 =>
              obtain rfl : y = x := by simpa using h1
              exact ⟨t, by rw [h2.1], h2.2, rfl⟩
        · cases e
      have g2 : ∀ f, b2 f (says rest) = some s → ∃ t u, rest = [t.d, u.d] ∧ t.ok ∧ u.ok ∧ s = f t u := fun f e => by
        unfold b2 at e
        split at e
        · rename_i o o2 eo
          split at e
          · rename_i t u
            cases e
            obtain ⟨x, h1, h2⟩ := H 1 t (by rw [says, eo]; rfl)
            obtain ⟨y, h3, h4⟩ := H 2 u (by rw [says, eo]; rfl)
            rw [eo] at hl
            match rest, hl, h1, h3 with
            | [a, b], _, h1, h3 =>
              obtain rfl : a = x := by simpa using h1
              obtain rfl : b = y := by simpa using h3
              exact ⟨t, u, by rw [h2.1, h4.1], h2.2, h4.2, rfl⟩
          · cases e
        · cases e
      have gq : ∀ al, bq al rest (says rest) = some s → ∃ x t, rest = [.str (if x then "x" else "y"), t.d] ∧ t.ok ∧ s = .qu al x t := fun al e => by
        unfold bq at e
        split at e
        · rename_i l y
          split at e
          · rename_i o o2 eo
            split at e
            · rename_i x t el
              cases e
              obtain ⟨z, h1, h2⟩ := H 2 t (by rw [says, eo]; rfl)
              obtain rfl : y = z := by simpa using h1
              exact ⟨x, t, by rw [letOf_some el, h2.1], h2.2, rfl⟩
            · cases e
          · cases e
        · cases e
      have g0 : ∀ t, b0 t rest = some s → rest = [] ∧ s = t := fun t e => by
        unfold b0 at e
        split at e
        · rename_i q
          cases e
          exact ⟨by simpa using q, rfl⟩
        · cases e
      unfold bw at h
      split at h
      · rename_i e; subst e
        obtain ⟨rfl, rfl⟩ := g0 _ h
        exact ⟨rfl, trivial⟩
      split at h
      · rename_i e; subst e
        obtain ⟨rfl, rfl⟩ := g0 _ h
        exact ⟨rfl, trivial⟩
      split at h
      · rename_i e; subst e
        obtain ⟨t, rfl, o, rfl⟩ := g1 _ h
        exact ⟨rfl, o⟩
      split at h
      · rename_i e; subst e
        obtain ⟨t, u, rfl, o, o2, rfl⟩ := g2 _ h
        exact ⟨rfl, o, o2⟩
      split at h
      · rename_i e; subst e
        obtain ⟨t, u, rfl, o, o2, rfl⟩ := g2 _ h
        exact ⟨rfl, o, o2⟩
      split at h
      · rename_i e; subst e
        obtain ⟨x, t, rfl, o, rfl⟩ := gq _ h
        exact ⟨rfl, o⟩
      split at h
      · rename_i e; subst e
        obtain ⟨x, t, rfl, o, rfl⟩ := gq _ h
        exact ⟨rfl, o⟩
      split at h
      · rename_i m
        unfold br at h
        split at h
        · split at h
          · rename_i g
            cases h
            exact ⟨rfl, m, g⟩
          · cases h
        · cases h
      · cases h
    · cases h
  · cases h
mutual
theorem say_some : ∀ {d : PyData} {s : Say}, say d = some s → d = s.d ∧ s.ok
  | .tuple ds, s, h => by
    rw [say] at h
    exact build_some (fun i t e => says_some e) h
  | .none, _, h => by simp [say] at h
  | .bool _, _, h => by simp [say] at h
  | .int _, _, h => by simp [say] at h
  | .str _, _, h => by simp [say] at h
  | .list _, _, h => by simp [say] at h
  | .dict _, _, h => by simp [say] at h
theorem says_some : ∀ {ds : List PyData} {i : Nat} {s : Say}, (says ds)[i]? = some (some s) → ∃ d, ds[i]? = some d ∧ d = s.d ∧ s.ok
  | [], _, _, h => by simp [says] at h
  | d :: ds, 0, s, h => by
    rw [says] at h
    exact ⟨d, rfl, say_some (by simpa using h)⟩
  | d :: ds, i + 1, s, h => by
    rw [says] at h
    obtain ⟨e, h1, h2⟩ := says_some (ds := ds) (i := i) (by simpa using h)
    exact ⟨e, by simpa using h1, h2⟩
end
end K44

set_option Elab.async false
set_option linter.all false
set_option maxRecDepth 100000
set_option maxHeartbeats 8000000
local macro_rules | `(tactic| walk_at "rd") => `(tactic| dsimp only [Evl.tCut, L2.tSeq, L2.tNext, L2.tRet, L2.tRetN, L2.tAsg, L2.gName, L2.tIfS, L2.tDrop, L2.tCons, L2.tNil, L2.tC, L2.tVar, L2.tCB, L2.tAndV, L2.tOrV, L2.tNotV, L2.tB, L2.tTest, L2.tOp, L2.tUn, L2.tNot, L2.tAnd, L2.tOr, L2.tIf, L2.tCall, L2.tTup, L2.tLst, L2.tNotT, L2.tYes, L2.gTup, L2.gCons, L2.gNil, L2.gSub, L2.tBM0, L2.tBM, L2.tWhile, L2.tFor, L2.iRng1, L2.iRng2, L2.tAugS, Tw.iEnumT, L2.tCKw, L2.tAug, L2.ipI, RT.iRevA, L2.tPar, L2.tPar3, L2.tSl, L2.tNoPart, L2.tPart, Tw.tRevT, Tw.tFput])
namespace K44
open PySem PySem.Spec PyProof.Rows L2 Tw
/-! equal data, keys -/
mutual
theorem eqv_nk : ∀ {d e : PyData}, isK d = true → isK e = true → PyData.eqv d e = decide (nk d = nk e)
  | .int i, .int j, _, _ => by
    rw [PyData.eqv, Bool.eq_iff_iff]
    simp [nk]
  | .str x, .str y, _, _ => by
    rw [PyData.eqv, Bool.eq_iff_iff]
    simp [nk]
  | .none, .none, _, _ => by simp [PyData.eqv, nk]
  | .tuple ds, .tuple es, h, g => by
    rw [isK] at h g
    rw [PyData.eqv, eqv1_nk h g, Bool.eq_iff_iff]
    simp [nk]
  | .bool _, _, h, _ => by simp [isK] at h
  | .list _, _, h, _ => by simp [isK] at h
  | .dict _, _, h, _ => by simp [isK] at h
  | _, .bool _, _, g => by simp [isK] at g
  | _, .list _, _, g => by simp [isK] at g
  | _, .dict _, _, g => by simp [isK] at g
  | .int _, .str _, _, _ => by simp [PyData.eqv, nk]
  | .int _, .none, _, _ => by simp [PyData.eqv, nk]
  | .int _, .tuple _, _, _ => by simp [PyData.eqv, nk]
  | .str _, .int _, _, _ => by simp [PyData.eqv, nk]
  | .str _, .none, _, _ => by simp [PyData.eqv, nk]
  | .str _, .tuple _, _, _ => by simp [PyData.eqv, nk]
  | .none, .int _, _, _ => by simp [PyData.eqv, nk]
  | .none, .str _, _, _ => by simp [PyData.eqv, nk]
  | .none, .tuple _, _, _ => by simp [PyData.eqv, nk]
  | .tuple _, .int _, _, _ => by simp [PyData.eqv, nk]
  | .tuple _, .str _, _, _ => by simp [PyData.eqv, nk]
  | .tuple _, .none, _, _ => by simp [PyData.eqv, nk]
theorem eqv1_nk : ∀ {ds es : List PyData}, isK1 ds = true → isK1 es = true → PyData.eqvAll ds es = decide (nk1 ds = nk1 es)
  | [], [], _, _ => by simp [PyData.eqvAll, nk1]
  | [], _ :: _, _, _ => by simp [PyData.eqvAll, nk1]
  | _ :: _, [], _, _ => by simp [PyData.eqvAll, nk1]
  | d :: ds, e :: es, h, g => by
    rw [isK1, Bool.and_eq_true] at h g
    rw [PyData.eqvAll, eqv_nk h.1 g.1, eqv1_nk h.2 g.2, Bool.eq_iff_iff]
    simp [nk1]
end
theorem any_inK {ps : List PyData} {q : PyData} (h : ∀ p ∈ ps, isK p = true) (g : isK q = true) : (ps.any fun z => PyData.eqv z q) = inK ps q := by
  unfold inK
  rw [Bool.eq_iff_iff, List.any_eq_true, decide_eq_true_eq, List.mem_map]
  refine ⟨fun ⟨z, hz, e⟩ => ⟨z, hz, ?_⟩, fun ⟨z, hz, e⟩ => ⟨z, hz, ?_⟩⟩
  · rw [eqv_nk (h z hz) g] at e
    exact of_decide_eq_true e
  · rw [eqv_nk (h z hz) g]
    exact decide_eq_true e
/-! small polys -/
theorem isK1_of : ∀ {ds : List PyData}, (∀ d ∈ ds, isK d = true) → isK1 ds = true
  | [], _ => rfl
  | d :: ds, h => by rw [isK1, h d (by simp), isK1_of fun e m => h e (by simp [m])]; rfl
theorem whole_k {d : PyData} (h : wholeB d = true) : isK d = true ∧ dep d = 0 := by
  cases d <;> first | exact ⟨rfl, rfl⟩ | (simp [wholeB, isIntD, isBoolD] at h)
theorem row_k {d : PyData} (h : rowB d = true) : isK d = true ∧ dep d ≤ 1 := by
  cases d with
  | tuple ds =>
    unfold rowB at h
    rw [Bool.and_eq_true] at h
    refine ⟨by rw [isK]; exact isK1_of fun e m => (whole_k (all_mem h.1 m)).1, ?_⟩
    rw [dep]
    exact Nat.succ_le_succ (dep1_le fun e m => by rw [(whole_k (all_mem h.1 m)).2]; exact Nat.le_refl _)
  | _ => cases h
theorem poly_k {d : PyData} (h : polyB d = true) : isK d = true ∧ dep d ≤ 2 ∧ ∃ ds, d = .tuple ds ∧ ∀ e ∈ ds, rowB e = true := by
  cases d with
  | tuple ds =>
    unfold polyB at h
    rw [Bool.and_eq_true] at h
    refine ⟨by rw [isK]; exact isK1_of fun e m => (row_k (all_mem h.1 m)).1, ?_, ds, rfl, fun e m => all_mem h.1 m⟩
    rw [dep]
    exact Nat.succ_le_succ (dep1_le fun e m => (row_k (all_mem h.1 m)).2)
  | _ => cases h
theorem small_k {d : PyData} (h : smallB d = true) : isK d = true ∧ dep d ≤ 2 ∧ ∃ ds, d = .tuple ds ∧ (∀ e ∈ ds, rowB e = true) ∧ ds.length ≤ 5 ∧ widD d ≤ 5 := by
  unfold smallB at h
  rw [Bool.and_eq_true, Bool.and_eq_true] at h
  obtain ⟨h1, h2, ds, rfl, h3⟩ := poly_k h.1.1
  exact ⟨h1, h2, ds, rfl, h3, of_decide_eq_true h.1.2, of_decide_eq_true h.2⟩
/-! joined lists -/
theorem un_nil (A : List PyData) : un [] A = A := by
  unfold un
  rw [List.nil_append, List.filter_eq_self]
  intro a _
  rfl
theorem un_none (ps : List PyData) : un ps [] = ps := by unfold un; rw [List.filter_nil, List.append_nil]
theorem un_one (ps : List PyData) (p : PyData) : un ps [p] = put ps p := by
  unfold un put inK
  by_cases m : nk p ∈ ps.map nk
  · rw [if_pos m, List.filter_cons, decide_eq_true m]
    simp
  · rw [if_neg m, List.filter_cons, decide_eq_false m]
    simp
theorem inK_un (ps A : List PyData) (q : PyData) : inK (un ps A) q = (inK ps q || inK A q) := by
  unfold inK
  rw [Bool.eq_iff_iff, Bool.or_eq_true, decide_eq_true_eq, decide_eq_true_eq, decide_eq_true_eq]
  unfold un
  rw [List.map_append, List.mem_append]
  refine ⟨fun h => h.elim .inl fun h => ?_, fun h => ?_⟩
  · obtain ⟨a, ha, e⟩ := List.mem_map.mp h
    exact .inr (List.mem_map.mpr ⟨a, (List.mem_filter.mp ha).1, e⟩)
  · by_cases m : nk q ∈ ps.map nk
    · exact .inl m
    · rcases h with h | h
      · exact .inl h
      · obtain ⟨a, ha, e⟩ := List.mem_map.mp h
        refine .inr (List.mem_map.mpr ⟨a, List.mem_filter.mpr ⟨ha, ?_⟩, e⟩)
        unfold inK
        rw [e, decide_eq_false m]
        rfl
theorem un_assoc (ps A B : List PyData) : un (un ps A) B = un ps (un A B) := by
  have e : (B.filter fun q => !inK (un ps A) q) = (B.filter fun q => !inK A q).filter fun q => !inK ps q := by
    rw [List.filter_filter]
    refine List.filter_congr fun q _ => ?_
    rw [inK_un, Bool.not_or]
  show un ps A ++ _ = ps ++ (A ++ _).filter _
  rw [e, List.filter_append, ← List.append_assoc]
  rfl
theorem un_len (ps A : List PyData) : (un ps A).length ≤ ps.length + A.length := by
  unfold un
  rw [List.length_append]
  have := List.length_filter_le (fun q => !inK ps q) A
  omega
theorem un_mem {ps A : List PyData} {p : PyData} (h : p ∈ un ps A) : p ∈ ps ∨ p ∈ A := (List.mem_append.mp h).elim .inl fun h => .inr (List.mem_filter.mp h).1
theorem un_nodup {ps A : List PyData} (h : ps.Nodup) (g : A.Nodup) : (un ps A).Nodup := by
  unfold un
  rw [List.nodup_append]
  refine ⟨h, g.filter _, fun a ha b hb e => ?_⟩
  subst e
  have := (List.mem_filter.mp hb).2
  unfold inK at this
  rw [decide_eq_true (List.mem_map_of_mem ha)] at this
  cases this
theorem Say.polys_small : ∀ {s : Say}, s.ok → ∀ p ∈ s.polys, smallB p = true
  | .nn s, h, p, m => Say.polys_small (s := s) h p m
  | .bo _ s t, h, p, m => (un_mem m).elim (Say.polys_small (s := s) h.1 p) (Say.polys_small (s := t) h.2 p)
  | .qu _ _ s, h, p, m => Say.polys_small (s := s) h p m
  | .re _ q, h, p, m => by
    rw [List.mem_singleton.mp m]
    exact h.2
  | .tt, _, p, m => by cases m
  | .ff, _, p, m => by cases m
theorem Say.polys_nodup : ∀ s : Say, s.polys.Nodup
  | .nn s => Say.polys_nodup s
  | .bo _ s t => un_nodup (Say.polys_nodup s) (Say.polys_nodup t)
  | .qu _ _ s => Say.polys_nodup s
  | .re _ q => List.nodup_cons.mpr ⟨(fun z => nomatch z), List.nodup_nil⟩
  | .tt => List.nodup_nil
  | .ff => List.nodup_nil
theorem Say.polys_len : ∀ s : Say, s.polys.length ≤ 2 ^ s.depth
  | .nn s => by
    have := Say.polys_len s
    show s.polys.length ≤ 2 ^ (1 + s.depth)
    rw [Nat.add_comm, Nat.pow_succ]; omega
  | .bo _ s t => by
    have h1 := Say.polys_len s
    have h2 := Say.polys_len t
    have h3 := un_len s.polys t.polys
    have h4 : 2 ^ s.depth ≤ 2 ^ max s.depth t.depth := Nat.pow_le_pow_right (by decide) (Nat.le_max_left _ _)
    have h5 : 2 ^ t.depth ≤ 2 ^ max s.depth t.depth := Nat.pow_le_pow_right (by decide) (Nat.le_max_right _ _)
    show (un s.polys t.polys).length ≤ 2 ^ (1 + max s.depth t.depth)
    rw [Nat.add_comm, Nat.pow_succ]; omega
  | .qu _ _ s => by
    have := Say.polys_len s
    show s.polys.length ≤ 2 ^ (1 + s.depth)
    rw [Nat.add_comm, Nat.pow_succ]; omega
  | .re _ q => by show 1 ≤ 2; decide
  | .tt => by decide
  | .ff => by decide
/-! the words one by one -/
theorem say_str (w : Str) (rest : List PyData) : say (.tuple (.str w :: rest)) = bw w rest (says rest) := by
  rw [say, says]; rfl
theorem say_no {d : PyData} {rest : List PyData} (h : ∀ w, d ≠ .str w) : say (.tuple (d :: rest)) = none := by
  rw [say]
  cases d <;> first | rfl | exact absurd rfl (h _)
theorem say_tup {d : PyData} (h : isTupD d = false) : say d = none := by
  cases d <;> first | (cases h; done) | simp [say]
theorem bw_tt (r : List PyData) (o : List (Option Say)) : bw "true" r o = b0 .tt r := rfl
theorem bw_ff (r : List PyData) (o : List (Option Say)) : bw "false" r o = b0 .ff r := rfl
theorem bw_nn (r : List PyData) (o : List (Option Say)) : bw "not" r o = b1 .nn o := rfl
theorem bw_bo (r : List PyData) (o : List (Option Say)) : bw "both" r o = b2 (.bo true) o := rfl
theorem bw_ei (r : List PyData) (o : List (Option Say)) : bw "either" r o = b2 (.bo false) o := rfl
theorem bw_al (r : List PyData) (o : List (Option Say)) : bw "all" r o = bq true r o := rfl
theorem bw_so (r : List PyData) (o : List (Option Say)) : bw "some" r o = bq false r o := rfl
theorem bw_re {w : Str} (h : w ∈ rels) (r : List PyData) (o : List (Option Say)) : bw w r o = br w r := by
  have := words_apart w h
  simp only [words, List.mem_cons, List.not_mem_nil, or_false, not_or] at this
  obtain ⟨a, b, c, d, e, f, g⟩ := this
  unfold bw
  rw [if_neg a, if_neg b, if_neg c, if_neg d, if_neg e, if_neg f, if_neg g, if_pos h]
theorem bw_no {w : Str} (h : w ∉ words) (h2 : w ∉ rels) (r : List PyData) (o : List (Option Say)) : bw w r o = none := by
  have := h
  simp only [words, List.mem_cons, List.not_mem_nil, or_false, not_or] at this
  obtain ⟨a, b, c, d, e, f, g⟩ := this
  unfold bw
  rw [if_neg a, if_neg b, if_neg c, if_neg d, if_neg e, if_neg f, if_neg g, if_neg h2]
theorem word_cases (w : Str) : w = "true" ∨ w = "false" ∨ w = "not" ∨ w = "both" ∨ w = "either" ∨ w = "all" ∨ w = "some" ∨ (w ∉ words ∧ w ∈ rels) ∨ (w ∉ words ∧ w ∉ rels) := by
  by_cases h : w ∈ words
  · simp only [words, List.mem_cons, List.not_mem_nil, or_false] at h
    rcases h with h | h | h | h | h | h | h <;> simp [h]
  · by_cases g : w ∈ rels
    · exact .inr (.inr (.inr (.inr (.inr (.inr (.inr (.inl ⟨h, g⟩)))))))
    · exact .inr (.inr (.inr (.inr (.inr (.inr (.inr (.inr ⟨h, g⟩)))))))
/-! readings that come often -/
theorem inS (w : Str) : ∀ l : List Str, inV (.str w) (l.map V.str) = decide (w ∈ l)
  | [] => rfl
  | x :: l => by
    have ih := inS w l
    unfold inV at ih ⊢
    rw [List.map_cons, List.any_cons, ih, Bool.eq_iff_iff]
    simp only [Bool.or_eq_true, decide_eq_true_eq, List.mem_cons]
    have : eqV (.str x) (.str w) = true ↔ w = x := by
      show (x == w) = true ↔ w = x
      rw [beq_iff_eq]
      exact ⟨fun e => e.symm, fun e => e.symm⟩
    rw [this]
theorem cut1 (d : PyData) (ds : List PyData) : Tw.cutD (d :: ds) (some 1) none = ds := by
  unfold Tw.cutD
  have e : HT.sIx (d :: ds).length 0 (some 1) = 1 := by
    have := HT.sIx_nat (n := (d :: ds).length) (k := 1) (d := 0)
    rw [show ((1 : Nat) : Int) = 1 from rfl] at this
    rw [this]; simp
  rw [e, HT.sIx_none]
  simp
section
variable {K : PySem.W.Frag} {a : Addr} {H : Hp} {v : V} {ds : List PyData} {Q : VK}
theorem ix_at {n : Nat} {d : PyData} (h : Da a H v (.tuple ds)) (e : ds[n]? = some d) (q : ∀ x, Da a H x d → Q x H) : rIxT K v (.int (n : Int)) H Q := by
  obtain ⟨p, xs, rfl, np, hp, hx⟩ := da_tup h
  have hn : n < ds.length := (List.getElem?_eq_some_iff.mp e).1
  have hm : n < xs.length := by rw [hx.len]; exact hn
  obtain ⟨d', e1, e2⟩ := hx.get (List.getElem?_eq_getElem hm)
  rw [e] at e1
  cases e1
  exact ⟨p, xs, _, xs[n], rfl, rfl, SqT.of hp, atI_nat (List.getElem?_eq_getElem hm), q _ e2⟩
/-- a written tuple of texts -/
theorem words_new {l : List Str} {xs : List V} {R : Addr → Hp → Prop} (hx : xs = l.map V.str) (hl : l.length ≤ 1000) (q : ∀ p H', Same H H' → H p = none → H' p = some (.tup (l.map V.str)) → R p H') : xs.length ≤ sizeLine ∧ ∀ p, H p = none → R p (upd H p (.tup xs)) := by
  subst hx
  exact ⟨sz (by rw [List.length_map]; omega), fun p np => q p _ (same_new np) np upd_same⟩
theorem flat_all : ∀ l : List Str, (l.map V.str).all flatV = true
  | [] => rfl
  | x :: l => by rw [List.map_cons, List.all_cons, flat_all l]; rfl
/-- w in (.., ..) -/
theorem in_new {w : Str} {l : List Str} {xs : List V} {R : Bool → Hp → Prop} (hx : xs = l.map V.str) (hl : l.length ≤ 1000) (q : ∀ H', Same H H' → R (decide (w ∈ l)) H') :
    xs.length ≤ sizeLine ∧ ∀ p, H p = none → rIn K false (.str w) (.ref p) (upd H p (.tup xs)) fun x H' => ∃ k, x = .bl k ∧ R k H' := by
  subst hx
  exact ⟨sz (by rw [List.length_map]; omega), fun p np => ⟨p, l.map V.str, rfl, .inr (SqT.of upd_same), rfl, flat_all l, _, rfl, by rw [if_neg Bool.false_ne_true, inS]; exact q _ (same_new np)⟩⟩
theorem notIn_new {w : Str} {l : List Str} {xs : List V} {R : Bool → Hp → Prop} (hx : xs = l.map V.str) (hl : l.length ≤ 1000) (q : ∀ H', Same H H' → R (!decide (w ∈ l)) H') :
    xs.length ≤ sizeLine ∧ ∀ p, H p = none → rIn K true (.str w) (.ref p) (upd H p (.tup xs)) fun x H' => ∃ k, x = .bl k ∧ R k H' := by
  subst hx
  exact ⟨sz (by rw [List.length_map]; omega), fun p np => ⟨p, l.map V.str, rfl, .inr (SqT.of upd_same), rfl, flat_all l, _, rfl, by rw [if_pos rfl, inS]; exact q _ (same_new np)⟩⟩
end
end K44

set_option Elab.async false
set_option linter.all false
set_option maxRecDepth 100000
set_option maxHeartbeats 8000000
local macro_rules | `(tactic| walk_at "rd") => `(tactic| dsimp only [Evl.tCut, L2.tSeq, L2.tNext, L2.tRet, L2.tRetN, L2.tAsg, L2.gName, L2.tIfS, L2.tDrop, L2.tCons, L2.tNil, L2.tC, L2.tVar, L2.tCB, L2.tAndV, L2.tOrV, L2.tNotV, L2.tB, L2.tTest, L2.tOp, L2.tUn, L2.tNot, L2.tAnd, L2.tOr, L2.tIf, L2.tCall, L2.tTup, L2.tLst, L2.tNotT, L2.tYes, L2.gTup, L2.gCons, L2.gNil, L2.gSub, L2.tBM0, L2.tBM, L2.tWhile, L2.tFor, L2.iRng1, L2.iRng2, L2.tAugS, Tw.iEnumT, L2.tCKw, L2.tAug, L2.ipI, RT.iRevA, L2.tPar, L2.tPar3, L2.tSl, L2.tNoPart, L2.tPart, Tw.tRevT, Tw.tFput])
namespace K44
open PySem PySem.Spec PyProof.Rows L2 Tw
def rLn (K : PySem.W.Frag) : List V → Hp → VK → Prop := fun xs H Q => ∃ (p : Addr) (ys : List V), xs = [.ref p] ∧ (SqL K H p ys ∨ SqT K H p ys) ∧ Q (.int (ys.length : Int)) H
def isStrD : PyData → Bool
  | .str _ => true
  | _ => false
theorem isi_str {K : PySem.W.Frag} (d : PyData) : PySem.W.kitOne K (.type (kindOf d)) (.type "str") = some (isStrD d) := by
  cases d with
  | none => exact kit_ty (show kitB "NoneType" "str" = some false by decide +kernel)
  | bool _ => exact kit_ty (show kitB "bool" "str" = some false by decide +kernel)
  | int _ => exact kit_ty (show kitB "int" "str" = some false by decide +kernel)
  | str _ => exact kit_ty (show kitB "str" "str" = some true by decide +kernel)
  | list _ => exact kit_ty (show kitB "list" "str" = some false by decide +kernel)
  | tuple _ => exact kit_ty (show kitB "tuple" "str" = some false by decide +kernel)
  | dict _ => exact kit_ty (show kitB "dict" "str" = some false by decide +kernel)
theorem str_of {a : Addr} {H : Hp} {v : V} {d : PyData} (h : Da a H v d) (t : isStrD d = true) : ∃ w, v = .str w ∧ d = .str w := by
  cases h with
  | str x => exact ⟨x, rfl, rfl⟩
  | _ => cases t
/-- the text's own constants -/
structure Cs (K : PySem.W.Frag) (w : World) (mg : Str → Option Value) : Prop where
  ltr : ∃ p, mg "LETTERS" = some (.ref p) ∧ ∀ H : Hp, SqT K H p [.str "x", .str "y"]
  rel : ∃ (d : Addr) (es : Array DictEntry) (n : Nat), mg "RELATIONS" = some (.ref d) ∧ KDict K w d es n ∧ ∀ z, ∃ r, PySem.W.nsIn K d z = some r ∧ r.isSome = decide (z ∈ rels)
  dee : ∃ t, mg "DEEPEST" = some (.int 10 t)
  mun : ∃ t, mg "MOST_UNLIKE" = some (.int 8 t)
  mdg : ∃ t, mg "MOST_DEGREE" = some (.int 4 t)
def spWid : Sp := fun vs H Q _ => ∃ (a : Addr) (v : V) (ds : List PyData), vs = [v] ∧ Da a H v (.tuple ds) ∧ ds.length ≤ 1000 ∧ (∀ e ∈ ds, isTupD e = true) ∧ ∀ H', Same H H' → Q (.int ((widD (.tuple ds) : Nat) : Int)) H'
theorem wid_max (ds : List PyData) : maxN (ds.map fun r => ((lenD r : Nat) : Int)) = ((widD (.tuple ds) : Nat) : Int) := by
  have key : ∀ (l : List PyData) (a : Int), 0 ≤ a → (l.map fun r => ((lenD r : Nat) : Int)).foldl max a = max a ((l.foldr (fun r m => max (lenD r) m) 0 : Nat) : Int) := fun l => by
    induction l with
    | nil => intro a ha; simp; omega
    | cons r l ih =>
      intro a ha
      rw [List.map_cons, List.foldl_cons, ih _ (by omega), List.foldr_cons]
      omega
  unfold maxN
  rw [key ds 0 (Int.le_refl _)]
  show max 0 ((widD (.tuple ds) : Nat) : Int) = _
  omega
def fitB (k : Nat) (d : PyData) : Bool := match say d with
  | some s => decide (s.depth ≤ k)
  | none => false
def spFit (P : Program) (w : World) (k : Nat) : Sp := fun vs H Q _ => ∃ (D : Addr) (v : V) (d : PyData) (n : Nat) (ps : List PyData), vs = [v, .int (k : Int), .ref D] ∧ Da D H v d ∧ Sm n 1000 d ∧ Fd P w H D ps ∧ ps.length + 2 ^ k ≤ 100000 ∧
  ∀ H', Kp D H H' → (∀ s, say d = some s → s.depth ≤ k → Fd P w H' D (un ps s.polys)) → Q (.bl (fitB k d)) H'
section
variable {P : Program} {w : World} {K : PySem.W.Frag} {mg : Str → Option Value} {base : Heap}
theorem scWidth : FnScope ["poly", "row"] ["poly"] (defScope sWidth) := ⟨rfl, rfl, rfl, by decide +kernel, rfl, by decide +kernel, by decide +kernel⟩
theorem ok_width (D : Def K mg "width_in_x" sWidth ["poly"]) (nb : Nb mg) : Cal P w K mg base "width_in_x" 1 ["poly"] spWid := by
  refine D.ok scWidth (fun vs H Q E h => ?_) (fun f cdv A out s H vs Q E hr h => ?_)
  · obtain ⟨a, v, ds, rfl, _⟩ := h; rfl
  obtain ⟨a, v, ds, rfl, hd, hl, ht, q⟩ := h
  obtain ⟨p, xs, rfl, np, hp, hx⟩ := da_tup hd
  refine ⟨_, pss_one (ps_ret (pe_callBK (r := rMaxZ K) (id := "max") (cr_maxZ rfl hr.units) (by rfl) nb.max (by decide +kernel) (pa_cons
          (pe_lc (own := [("row", 1)]) (g := gName 1) (tt := tYes) rfl scWidth.nd (pi_tup (pv 0)) (blkOk_by (N := ["poly", "row"]) (sc := defScope sWidth) (by decide +kernel))
            (fun _ _ _ _ _ => pg_name (i := 1) scWidth.nd rfl (Or.inl rfl)) (fun _ _ _ _ _ => pts_nil) (fun _ _ _ _ _ => (pe_callB (id := "len") (r := rLn K) call_len_seq (by rfl) nb.len PySem.boot_len (pa_cons (pv 1) pa_nil)))) pa_nil) (pk_cons pe_int pk_nil))), ?_⟩
  walk_at "rd"
  refine lc_mapT (fun r => V.int ((lenD r : Nat) : Int)) rfl hp hx (by rw [hx.len]; omega) (wipe1 _ 1) (fun x d H1 hm s1 dx R k => ?_) fun L H1 s1 nL hL => ?_
  · obtain ⟨p2, ys, es, rfl, rfl, n2, h2, hy⟩ := tup_of dx (ht d hm)
    refine ⟨.ref p2, rfl, p2, ys, rfl, .inr (SqT.of h2), ?_⟩
    rw [hy.len]
    exact k H1 (Same.refl _)
  · refine ⟨L, ds.map fun r => ((lenD r : Nat) : Int), rfl, rfl, SqL.of (by rw [List.map_map]; exact hL), fun n hn => ?_, ?_⟩
    · obtain ⟨r, _, rfl⟩ := List.mem_map.mp hn
      omega
    · rw [wid_max]
      exact q H1 s1
theorem scSmall : FnScope ["value"] ["value"] (defScope sSmall) := ⟨rfl, rfl, rfl, by decide +kernel, rfl, by decide +kernel, by decide +kernel⟩
theorem ok_small (D : Def K mg "is_small_poly" sSmall ["value"]) (nb : Nb mg) (cs : Cs K w mg) (c1 : Cal P w K mg base "is_poly" 3 ["value"] (spB polyB)) (c2 : Cal P w K mg base "width_in_x" 1 ["poly"] spWid) : Cal P w K mg base "is_small_poly" 4 ["value"] (spB smallB) := by
  refine D.ok scSmall (fun vs H Q E h => ?_) (fun f cdv A out s H vs Q E hr h => ?_)
  · obtain ⟨a, v, d, m, rfl, _⟩ := h; rfl
  obtain ⟨a, v, d, m, rfl, hd, hs, q⟩ := h
  obtain ⟨t, ht⟩ := cs.mdg
  refine ⟨_, pss_one (ps_ret (pe_and (pe_cal c1 hr (by decide) (by rfl) (pa_cons (pv 0) pa_nil)) (pe_and (pe_cmpR op_le (pe_callB (id := "len") (r := rLn K) call_len_seq (by rfl) nb.len PySem.boot_len (pa_cons (pv 0) pa_nil)) (pe_op op_add (pe_glob (v := .int 4) (by rfl) ht ⟨t, rfl⟩) pe_int) (nomark _))
    (pe_one (pe_cmpR op_le (pe_cal c2 hr (by decide) (by rfl) (pa_cons (pv 0) pa_nil)) (pe_op op_add (pe_glob (v := .int 4) (by rfl) ht ⟨t, rfl⟩) pe_int) (nomark _)))))), ?_⟩
  walk_at "rd"
  refine ⟨v, rfl, a, v, d, m, rfl, hd, hs, fun H1 s1 => ⟨_, rfl, ?_⟩⟩
  have q1 : ∀ H', Same H H' → Q (.bl (polyB d && decide (lenD d ≤ 5) && decide (widD d ≤ 5))) H' := q
  cases hp : polyB d with
  | false => rw [hp] at q1; exact iteF (q1 H1 s1)
  | true =>
    rw [hp] at q1
    obtain ⟨_, _, ds, rfl, hr2⟩ := poly_k hp
    have hd1 := hd.same s1
    obtain ⟨p, xs, rfl, np, hpp, hx⟩ := da_tup hd1
    refine iteT ⟨.ref p, rfl, p, xs, rfl, .inr (SqT.of hpp), 4, 1, rfl, rfl, (xs.length : Int), 4 + 1, rfl, rfl, _, rfl, ?_⟩
    rw [hx.len]
    refine ite2 (fun c => ?_) (fun c => ?_)
    · have c := of_decide_eq_true c
      have e5 : decide (lenD (.tuple ds) ≤ 5) = true := decide_eq_true (by show ds.length ≤ 5; omega)
      rw [e5] at q1
      refine ⟨.ref p, rfl, a, .ref p, ds, rfl, hd1, by omega, fun e he => row_tup (hr2 e he), fun H2 s2 => ⟨4, 1, rfl, rfl, ((widD (.tuple ds) : Nat) : Int), 4 + 1, rfl, rfl, ?_⟩⟩
      have := q1 H2 (s1.trans s2)
      have e6 : decide (((widD (.tuple ds) : Nat) : Int) ≤ 4 + 1) = decide (widD (.tuple ds) ≤ 5) := decide_eq_decide.mpr (by omega)
      show Q (.bl (decide (((widD (.tuple ds) : Nat) : Int) ≤ 4 + 1))) H2
      rw [e6]
      exact this
    · have e5 : decide (lenD (.tuple ds) ≤ 5) = false := decide_eq_false (fun z => c (decide_eq_true (by have : ds.length ≤ 5 := z; omega)))
      rw [e5] at q1
      have := q1 H1 s1
      exact this
theorem scIsLetter : FnScope ["value"] ["value"] (defScope sIsLetter) := ⟨rfl, rfl, rfl, by decide +kernel, rfl, by decide +kernel, by decide +kernel⟩
def letB (d : PyData) : Bool := (letOf d).isSome
theorem letB_str (w : Str) : letB (.str w) = decide (w ∈ (["x", "y"] : List Str)) := by
  unfold letB letOf
  by_cases h : w = "x"
  · subst h; rfl
  · by_cases g : w = "y"
    · subst g; rfl
    · show (if w = "x" then some true else if w = "y" then some false else none : Option Bool).isSome = _
      rw [if_neg h, if_neg g]; simp [h, g]
theorem ok_isLetter (D : Def K mg "is_letter" sIsLetter ["value"]) (nb : Nb mg) (cs : Cs K w mg) : Cal P w K mg base "is_letter" 1 ["value"] (spB letB) := by
  refine D.ok scIsLetter (fun vs H Q E h => ?_) (fun f cdv A out s H vs Q E hr h => ?_)
  · obtain ⟨a, v, d, m, rfl, _⟩ := h; rfl
  obtain ⟨a, v, d, m, rfl, hd, hs, q⟩ := h
  obtain ⟨lp, hlp, hls⟩ := cs.ltr
  refine ⟨_, pss_one (ps_ret (pe_and (pe_callB (id := "isinstance") (r := rIsi K) call_isi (by rfl) nb.isi (by decide +kernel) (pa_cons (pv 0) (pa_cons (pe_bltn (v := .ty "str") (by rfl) nb.str (by decide +kernel) rfl) pa_nil))) (pe_one (pe_cmpR op_in_seq (pv 0) (pe_glob (v := .ref lp) (by rfl) hlp rfl) (by rfl))))), ?_⟩
  walk_at "rd"
  refine ⟨v, rfl, isi hd (isi_str d) ⟨isStrD d, rfl, ?_⟩⟩
  cases ht : isStrD d with
  | false =>
    have e : letB d = false := by cases d <;> first | rfl | cases ht
    have := q H (Same.refl _)
    rw [e] at this
    exact iteF this
  | true =>
    obtain ⟨x, rfl, rfl⟩ := str_of hd ht
    refine iteT ⟨.str x, rfl, lp, [.str "x", .str "y"], rfl, .inr (hls H), rfl, rfl, ?_⟩
    have e : inV (.str x) [.str "x", .str "y"] = letB (.str x) := by
      rw [letB_str]
      exact inS x ["x", "y"]
    rw [if_neg Bool.false_ne_true, e]
    exact q H (Same.refl _)
end
end K44

set_option Elab.async false
set_option linter.all false
set_option maxRecDepth 100000
set_option maxHeartbeats 8000000
local macro_rules | `(tactic| walk_at "rd") => `(tactic| dsimp only [Evl.tCut, L2.tSeq, L2.tNext, L2.tRet, L2.tRetN, L2.tAsg, L2.gName, L2.tIfS, L2.tDrop, L2.tCons, L2.tNil, L2.tC, L2.tVar, L2.tCB, L2.tAndV, L2.tOrV, L2.tNotV, L2.tB, L2.tTest, L2.tOp, L2.tUn, L2.tNot, L2.tAnd, L2.tOr, L2.tIf, L2.tCall, L2.tTup, L2.tLst, L2.tNotT, L2.tYes, L2.gTup, L2.gCons, L2.gNil, L2.gSub, L2.tBM0, L2.tBM, L2.tWhile, L2.tFor, L2.iRng1, L2.iRng2, L2.tAugS, Tw.iEnumT, L2.tCKw, L2.tAug, L2.ipI, RT.iRevA, L2.tPar, L2.tPar3, L2.tSl, L2.tNoPart, L2.tPart, Tw.tRevT, Tw.tFput])
namespace K44
open PySem PySem.Spec PyProof.Rows L2 Tw
theorem fit_none {k : Nat} {d : PyData} (h : say d = none) : fitB k d = false := by unfold fitB; rw [h]
theorem fit_some {k : Nat} {d : PyData} {s : Say} (h : say d = some s) : fitB k d = decide (s.depth ≤ k) := by unfold fitB; rw [h]
theorem fd_put {P : Program} {w : World} {H : Hp} {D : Addr} {ps : List PyData} {p : PyData} (h : Fd P w H D (put ps p)) : Fd P w H D (un ps [p]) := by rw [un_one]; exact h
theorem says1 (d : PyData) : says [d] = [say d] := by rw [says, says]
theorem says2 (d e : PyData) : says [d, e] = [say d, say e] := by rw [says, says, says]
theorem letOf_b {d : PyData} : (∃ x, letOf d = some x) ↔ letB d = true := by
  unfold letB
  cases letOf d <;> simp
theorem veq {i j : Int} (c : decide (V.int i = V.int j) = true) : i = j := by rw [dec_int] at c; simpa using c
theorem vne {i j : Int} (c : ¬ decide (V.int i = V.int j) = true) : i ≠ j := by rw [dec_int] at c; simpa using c
theorem b1_len {f : Say → Say} {rs : List (Option Say)} (h : rs.length ≠ 1) : b1 f rs = none := by
  unfold b1
  split
  · exact absurd rfl h
  · rfl
theorem b2_len {f : Say → Say → Say} {rs : List (Option Say)} (h : rs.length ≠ 2) : b2 f rs = none := by
  unfold b2
  split
  · exact absurd rfl h
  · rfl
theorem bq_len {al : Bool} {rest : List PyData} {rs : List (Option Say)} (h : rest.length ≠ 2) : bq al rest rs = none := by
  unfold bq
  split
  · exact absurd rfl h
  · rfl
theorem br_len {w : Str} {rest : List PyData} (h : rest.length ≠ 1) : br w rest = none := by
  unfold br
  split
  · exact absurd rfl h
  · rfl
theorem depth_nn (s : Say) : (Say.nn s).depth = 1 + s.depth := rfl
theorem depth_bo (b : Bool) (s t : Say) : (Say.bo b s t).depth = 1 + max s.depth t.depth := rfl
theorem depth_qu (b x : Bool) (s : Say) : (Say.qu b x s).depth = 1 + s.depth := rfl
section
variable {P : Program} {w : World} {K : PySem.W.Frag} {mg : Str → Option Value} {base : Heap}
theorem scFit : FnScope ["value", "deep", "found", "word", "rest"] ["value", "deep", "found"] (defScope sFit) := ⟨rfl, rfl, rfl, by decide +kernel, rfl, by decide +kernel, by decide +kernel⟩
theorem fit_many (k : Nat) : ∀ vs H Q E, spFit P w k vs H Q E → vs.length = (["value", "deep", "found"] : List Str).length := fun vs H Q E h => by
  obtain ⟨D, v, d, n, ps, rfl, _⟩ := h; rfl
theorem fit_step {k : Nat} (D : Def K mg "does_fit" sFit ["value", "deep", "found"]) (nb : Nb mg) (cs : Cs K w mg) (cL : Cal P w K mg base "is_letter" 1 ["value"] (spB letB)) (cS : Cal P w K mg base "is_small_poly" 4 ["value"] (spB smallB))
    (c : Cal P w K mg base "does_fit" (k + 5) ["value", "deep", "found"] (spFit P w k)) : Cal P w K mg base "does_fit" (k + 6) ["value", "deep", "found"] (spFit P w (k + 1)) := by
  obtain ⟨rd, res, rn, hrd, hrk, hrz⟩ := cs.rel
  refine D.ok scFit (fit_many (k + 1)) (fun f cdv A out s H vs Q E hr h => ?_)
  obtain ⟨D, v, d, n, ps, rfl, hd, hs, hf, hlen, q⟩ := h
  have hu := hr.un
  have hu20 : (A.deeper (envOfC "does_fit" (defScope sFit) s.heap.objs.size f cdv)).units + 20 < cLine := by omega
  refine ⟨_, pss_cons (ps_if (PW.pt (pw_or (pt_cmpR op_eq (pv 1) pe_int (nomark _)) (pw_or (pt_not (pt_val (pe_callB (id := "isinstance") (r := rIsi K) call_isi (by rfl) nb.isi (by decide +kernel) (pa_cons (pv 0) (pa_cons (pe_bltn (v := .ty "tuple") (by rfl) nb.tup (by decide +kernel) rfl) pa_nil))))) (pw_or (pt_not (pt_truth (pv 0) (fun _ => rfl))) (pw_or1 (pt_not (pt_val (pe_callB (id := "isinstance") (r := rIsi K) call_isi (by rfl) nb.isi (by decide +kernel) (pa_cons (pe_ix (r := rIxT K) ix_tup (pv 0) pe_int (fun _ _ => rfl)) (pa_cons (pe_bltn (v := .ty "str") (by rfl) nb.str (by decide +kernel) rfl) pa_nil)))))))))) (pss_one (ps_ret pe_bl)) pss_nil)
    (pss_cons (ps_par (i := 3) (j := 4) rfl scFit.nd rfl rfl (by decide) rfl rfl (pa_cons (pe_ix (r := rIxT K) ix_tup (pv 0) pe_int (fun _ _ => rfl)) (pa_cons (pe_slice sl_tupA (pv 0) (po_some pe_int) po_none) pa_nil)) rfl)
    (pss_cons (ps_if (pt_cmpR op_in_seq (pv 3) (pe_tup (pa_cons pe_str (pa_cons pe_str pa_nil))) (by rfl)) (pss_one (ps_ret (pe_cmpR (op_eqT0 hr.units) (pv 4) (pe_tup pa_nil) (nomark _)))) pss_nil)
    (pss_cons (ps_if (pt_cmpR op_eq (pv 3) pe_str (nomark _)) (pss_one (ps_ret (pe_and (pe_cmpR op_eq (pe_callB (id := "len") (r := rLn K) call_len_seq (by rfl) nb.len PySem.boot_len (pa_cons (pv 4) pa_nil)) pe_int (nomark _)) (pe_one (pe_cal c hr (by omega) (by rfl) (pa_cons (pe_ix (r := rIxT K) ix_tup (pv 4) pe_int (fun _ _ => rfl)) (pa_cons (pe_op op_sub (pv 1) pe_int) (pa_cons (pv 2) pa_nil)))))))) pss_nil)
    (pss_cons (ps_if (pt_cmpR op_in_seq (pv 3) (pe_tup (pa_cons pe_str (pa_cons pe_str pa_nil))) (by rfl)) (pss_one (ps_ret (pe_and (pe_cmpR op_eq (pe_callB (id := "len") (r := rLn K) call_len_seq (by rfl) nb.len PySem.boot_len (pa_cons (pv 4) pa_nil)) pe_int (nomark _)) (pe_and (pe_cal c hr (by omega) (by rfl) (pa_cons (pe_ix (r := rIxT K) ix_tup (pv 4) pe_int (fun _ _ => rfl)) (pa_cons (pe_op op_sub (pv 1) pe_int) (pa_cons (pv 2) pa_nil)))) (pe_one (pe_cal c hr (by omega) (by rfl) (pa_cons (pe_ix (r := rIxT K) ix_tup (pv 4) pe_int (fun _ _ => rfl)) (pa_cons (pe_op op_sub (pv 1) pe_int) (pa_cons (pv 2) pa_nil))))))))) pss_nil)
    (pss_cons (ps_if (pt_cmpR op_in_seq (pv 3) (pe_tup (pa_cons pe_str (pa_cons pe_str pa_nil))) (by rfl)) (pss_one (ps_ret (pe_and (pe_cmpR op_eq (pe_callB (id := "len") (r := rLn K) call_len_seq (by rfl) nb.len PySem.boot_len (pa_cons (pv 4) pa_nil)) pe_int (nomark _)) (pe_and (pe_cal cL hr (by omega) (by rfl) (pa_cons (pe_ix (r := rIxT K) ix_tup (pv 4) pe_int (fun _ _ => rfl)) pa_nil)) (pe_one (pe_cal c hr (by omega) (by rfl) (pa_cons (pe_ix (r := rIxT K) ix_tup (pv 4) pe_int (fun _ _ => rfl)) (pa_cons (pe_op op_sub (pv 1) pe_int) (pa_cons (pv 2) pa_nil))))))))) pss_nil)
    (pss_cons (ps_if (PW.pt (pw_or (pt_cmpR (op_notIn_kd hrk) (pv 3) (pe_glob (v := .ref rd) (by rfl) hrd rfl) (by rfl)) (pw_or (pt_cmpR op_ne (pe_callB (id := "len") (r := rLn K) call_len_seq (by rfl) nb.len PySem.boot_len (pa_cons (pv 4) pa_nil)) pe_int (nomark _)) (pw_or1 (pt_not (pt_val (pe_cal cS hr (by omega) (by rfl) (pa_cons (pe_ix (r := rIxT K) ix_tup (pv 4) pe_int (fun _ _ => rfl)) pa_nil)))))))) (pss_one (ps_ret pe_bl)) pss_nil)
    (pss_cons (ps_fput hu20 (pv 2) (pe_ix (r := rIxT K) ix_tup (pv 4) pe_int (fun _ _ => rfl)) pe_bl)
    (pss_one (ps_ret pe_bl))))))))), ?_⟩
  walk_at "rd"
  have qn : say d = none → ∀ H', Kp D H H' → Q (.bl false) H' := fun e H' k' => by
    have := q H' k' (fun s z => by rw [e] at z; cases z)
    rw [fit_none e] at this
    exact this
  refine ⟨.int ((k + 1 : Nat) : Int), rfl, rfl, _, rfl, ite2 (fun z => absurd (of_decide_eq_true z) (by intro e; injection e with e; omega)) (fun _ => ?_)⟩
  refine ⟨v, rfl, isi hd (isi_tup d) ⟨isTupD d, rfl, ?_⟩⟩
  cases ht : isTupD d with
  | false => exact iteT (iteT (qn (say_tup ht) H (Kp.refl _ _)))
  | true =>
    obtain ⟨p, xs, ds, rfl, rfl, np, hp, hx⟩ := tup_of hd ht
    refine iteF ⟨.ref p, rfl, _, .inr (.inl ⟨xs, SqT.of hp, rfl⟩), ?_⟩
    rw [empty_iff hx, Bool.not_not]
    cases ds with
    | nil => exact iteT (iteT (qn rfl H (Kp.refl _ _)))
    | cons d0 rest =>
      refine iteF ⟨.ref p, rfl, ix_at (n := 0) hd rfl fun x0 hx0 => isi hx0 (isi_str d0) ⟨isStrD d0, rfl, ?_⟩⟩
      cases hst : isStrD d0 with
      | false => exact iteT (qn (say_no fun w e => by rw [e] at hst; cases hst) H (Kp.refl _ _))
      | true =>
        obtain ⟨wd, rfl, rfl⟩ := str_of hx0 hst
        refine iteF ⟨.ref p, rfl, ix_at (n := 0) hd rfl fun y0 hy0 => ?_⟩
        obtain rfl : y0 = .str wd := by cases hy0; rfl
        refine ⟨.ref p, rfl, 1, rfl, sl_da hf.some hd fun v1 H1 s1 hd1 => ⟨_, _, rfl, ?_⟩⟩
        rw [cut1] at hd1
        have ek : ((k + 1 : Nat) : Int) - 1 = (k : Int) := by omega
        have p2 : 2 ^ (k + 1) = 2 ^ k + 2 ^ k := by rw [Nat.pow_succ]; omega
        have p0 : 0 < 2 ^ k := Nat.pow_pos (by decide)
        have smr : ∀ e ∈ rest, Sm n 1000 e := fun e m => (hs.mem (List.mem_cons_of_mem _ m)).up (by omega) (Nat.le_refl _)
        have hsay := say_str wd rest
        obtain ⟨p1, xs1, rfl, np1, hp1, hx1⟩ := da_tup hd1
        have hl1 := hx1.len
        -- what the words alone tell
        have leaf : ∀ (s0 : Say), s0.depth = 1 → s0.polys = [] → say (.tuple (.str wd :: rest)) = b0 s0 rest → ∀ H2, Same H1 H2 → fitB (k + 1) (.tuple (.str wd :: rest)) = rest.isEmpty ∧ ∀ s, say (.tuple (.str wd :: rest)) = some s → s.depth ≤ k + 1 → Fd P w H2 D (un ps s.polys) := fun s0 h1 h2 e H2 s2 => by
          unfold b0 at e
          cases hre : rest.isEmpty with
          | true =>
            rw [hre, if_pos rfl] at e
            refine ⟨by rw [fit_some e, h1]; exact decide_eq_true (by omega), fun s z _ => ?_⟩
            rw [e] at z
            cases z
            rw [h2, un_none]
            exact hf.same (s1.trans s2)
          | false =>
            rw [hre, if_neg Bool.false_ne_true] at e
            exact ⟨fit_none e, fun s z _ => by rw [e] at z; cases z⟩
        have empt : ∀ H2, Same H1 H2 → (∀ H3, Same H2 H3 → Q (.bl rest.isEmpty) H3) → ([] : List V).length ≤ sizeLine ∧ ∀ t, H2 t = none → rT0 false K (.ref p1) (.ref t) (upd H2 t (.tup [])) Q := fun H2 s2 g => ⟨sz (by decide), fun t nt => by
          have s3 := same_new (o := .tup []) nt
          refine ⟨p1, t, xs1, [], rfl, rfl, SqT.of (s3 _ _ (s2 _ _ hp1)), SqT.of upd_same, rfl, ?_⟩
          rw [if_neg Bool.false_ne_true, empty_iff hx1]
          exact g _ s3⟩
        have q := fun H' (k' : Kp D H1 H') => q H' ((Kp.of s1).trans k')
        have hf := hf.same s1
        have call : ∀ (i : Nat) (d1 : PyData) (ps1 : List PyData) (H2 : Hp), Kp D H1 H2 → rest[i]? = some d1 → Fd P w H2 D ps1 → ps1.length + 2 ^ k ≤ 100000 → ∀ R : VK, (∀ H3, Kp D H1 H3 → (∀ s, say d1 = some s → s.depth ≤ k → Fd P w H3 D (un ps1 s.polys)) → R (.bl (fitB k d1)) H3) →
            rIxT K (.ref p1) (.int (i : Int)) H2 fun x H3 => ∃ y, some (some (V.int ((k + 1 : Nat) : Int))) = some (some y) ∧ ∃ a b, y = .int a ∧ V.int 1 = .int b ∧ ∃ z, some (some (V.ref D)) = some (some z) ∧ spFit P w k [x, .int (a - b), z] H3 R E0 := fun i d1 ps1 H2 k2 hi f2 l2 R g =>
          ix_at (n := i) (hd1.kp k2) hi fun x hx => ⟨_, rfl, _, _, rfl, rfl, .ref D, rfl, D, x, d1, n, ps1, by rw [ek], hx, smr d1 (List.mem_of_getElem? hi), f2, l2, fun H3 k3 f3 => g H3 (k2.trans k3) f3⟩
        have lenis : ∀ (H2 : Hp) (m : Int) (R : Prop × Prop) , Kp D H1 H2 → SqT K H2 p1 xs1 := fun H2 m R k2 => SqT.of (k2 _ _ np1 hp1)
        rcases word_cases wd with rfl | rfl | rfl | rfl | rfl | rfl | rfl | ⟨hw, hr2⟩ | ⟨hw, hr2⟩
        · refine ⟨.str _, rfl, in_new (l := ["true", "false"]) rfl (by decide) fun H2 s2 => iteT ?_⟩
          refine ⟨.ref p1, rfl, empt H2 s2 fun H3 s3 => ?_⟩
          obtain ⟨e1, e2⟩ := leaf .tt rfl rfl hsay H3 (s2.trans s3)
          rw [← e1]
          exact q H3 (Kp.of (s2.trans s3)) e2
        · refine ⟨.str _, rfl, in_new (l := ["true", "false"]) rfl (by decide) fun H2 s2 => iteT ?_⟩
          refine ⟨.ref p1, rfl, empt H2 s2 fun H3 s3 => ?_⟩
          obtain ⟨e1, e2⟩ := leaf .ff rfl rfl hsay H3 (s2.trans s3)
          rw [← e1]
          exact q H3 (Kp.of (s2.trans s3)) e2
        · refine ⟨.str _, rfl, in_new (l := ["true", "false"]) rfl (by decide) fun H2 s2 => iteF ?_⟩
          refine ⟨.str _, rfl, rfl, _, rfl, iteT ?_⟩
          refine ⟨.ref p1, rfl, p1, xs1, rfl, .inr (SqT.of (Kp.of s2 _ _ np1 hp1)), rfl, _, rfl, ?_⟩
          rw [hl1]
          refine ite2 (fun z => ?_) (fun z => ?_)
          · have z := veq z
            obtain ⟨d1, rfl⟩ : ∃ d1, rest = [d1] := List.length_eq_one_iff.mp (by omega)
            refine ⟨.ref p1, rfl, call 0 d1 ps H2 (Kp.of s2) rfl (hf.same s2) (by omega) _ fun H3 k3 f3 => ?_⟩
            have e : say (.tuple [.str "not", d1]) = (say d1).map .nn := by rw [hsay, bw_nn, says1]; rfl
            cases h1 : say d1 with
            | none =>
              rw [h1] at e
              rw [fit_none h1, ← fit_none (k := k + 1) e]
              exact q H3 k3 fun s z => by rw [e] at z; cases z
            | some t =>
              rw [h1] at e
              have : fitB k d1 = fitB (k + 1) (.tuple [.str "not", d1]) := by
                rw [fit_some h1, fit_some e]
                exact decide_eq_decide.mpr (by show t.depth ≤ k ↔ 1 + t.depth ≤ k + 1; omega)
              rw [this]
              refine q H3 k3 fun s z hz => ?_
              rw [e] at z
              cases z
              exact f3 t h1 (by have : 1 + t.depth ≤ k + 1 := hz; omega)
          · have z := vne z
            have e : say (.tuple (.str "not" :: rest)) = none := by rw [hsay, bw_nn]; exact b1_len (by rw [says_len]; omega)
            rw [← fit_none (k := k + 1) e]
            exact q H2 (Kp.of s2) fun s z => by rw [e] at z; cases z
        · refine ⟨.str _, rfl, in_new (l := ["true", "false"]) rfl (by decide) fun H2 s2 => iteF ?_⟩
          refine ⟨.str _, rfl, rfl, _, rfl, iteF ?_⟩
          refine ⟨.str _, rfl, in_new (l := ["both", "either"]) rfl (by decide) fun H3 s3 => iteT ?_⟩
          have s23 := s2.trans s3
          refine ⟨.ref p1, rfl, p1, xs1, rfl, .inr (SqT.of (Kp.of s23 _ _ np1 hp1)), rfl, _, rfl, ?_⟩
          rw [hl1]
          refine ite2 (fun z => ?_) (fun z => ?_)
          · have z := veq z
            obtain ⟨d1, d2, rfl⟩ : ∃ d1 d2, rest = [d1, d2] := by
              match rest, (by omega : rest.length = 2) with
              | [a, b], _ => exact ⟨a, b, rfl⟩
            have e : say (.tuple [.str "both", d1, d2]) = b2 (.bo true) [say d1, say d2] := by rw [hsay, bw_bo, says2]
            refine ⟨.ref p1, rfl, call 0 d1 ps H3 (Kp.of s23) rfl (hf.same s23) (by omega) _ fun H4 k4 f4 => ⟨_, rfl, ?_⟩⟩
            cases hb : fitB k d1 with
            | false =>
              refine iteF ?_
              have : fitB (k + 1) (.tuple [.str "both", d1, d2]) = false ∧ ∀ s, say (.tuple [.str "both", d1, d2]) = some s → ¬ s.depth ≤ k + 1 := by
                cases h1 : say d1 with
                | none =>
                  rw [h1] at e
                  have e : say (.tuple [.str "both", d1, d2]) = none := e
                  exact ⟨fit_none e, fun s z => by rw [e] at z; cases z⟩
                | some t =>
                  rw [fit_some h1] at hb
                  have hb := of_decide_eq_false hb
                  cases h2 : say d2 with
                  | none =>
                    rw [h1, h2] at e
                    have e : say (.tuple [.str "both", d1, d2]) = none := e
                    exact ⟨fit_none e, fun s z => by rw [e] at z; cases z⟩
                  | some u =>
                    rw [h1, h2] at e
                    have e : say (.tuple [.str "both", d1, d2]) = some (.bo true t u) := e
                    have hd : ¬ (Say.bo true t u).depth ≤ k + 1 := by rw [depth_bo]; omega
                    exact ⟨by rw [fit_some e]; exact decide_eq_false hd, fun s z => by rw [e] at z; cases z; exact hd⟩
              rw [← this.1]
              exact q H4 k4 fun s z hz => absurd hz (this.2 s z)
            | true =>
              obtain ⟨t, h1, ht1⟩ : ∃ t, say d1 = some t ∧ t.depth ≤ k := by
                unfold fitB at hb
                split at hb
                · exact ⟨_, by assumption, of_decide_eq_true hb⟩
                · cases hb
              have f4 := f4 t h1 ht1
              have pl := Say.polys_len t
              have pp : 2 ^ t.depth ≤ 2 ^ k := Nat.pow_le_pow_right (by decide) ht1
              have ul := un_len ps t.polys
              refine iteT ⟨.ref p1, rfl, call 1 d2 (un ps t.polys) H4 k4 rfl f4 (by omega) _ fun H5 k5 f5 => ?_⟩
              rw [h1] at e
              cases h2 : say d2 with
              | none =>
                rw [h2] at e
                have e : say (.tuple [.str "both", d1, d2]) = none := e
                rw [fit_none h2, ← fit_none (k := k + 1) e]
                exact q H5 k5 fun s z => by rw [e] at z; cases z
              | some u =>
                rw [h2] at e
                have e : say (.tuple [.str "both", d1, d2]) = some (.bo true t u) := e
                have : fitB k d2 = fitB (k + 1) (.tuple [.str "both", d1, d2]) := by
                  rw [fit_some h2, fit_some e]
                  exact decide_eq_decide.mpr (by rw [depth_bo]; omega)
                rw [this]
                refine q H5 k5 fun s z hz => ?_
                rw [e] at z
                cases z
                rw [depth_bo] at hz
                have := f5 u h2 (by omega)
                rw [un_assoc] at this
                exact this
          · have z := vne z
            have e : say (.tuple (.str "both" :: rest)) = none := by rw [hsay, bw_bo]; exact b2_len (by rw [says_len]; omega)
            rw [← fit_none (k := k + 1) e]
            exact q H3 (Kp.of s23) fun s z => by rw [e] at z; cases z
        · refine ⟨.str _, rfl, in_new (l := ["true", "false"]) rfl (by decide) fun H2 s2 => iteF ?_⟩
          refine ⟨.str _, rfl, rfl, _, rfl, iteF ?_⟩
          refine ⟨.str _, rfl, in_new (l := ["both", "either"]) rfl (by decide) fun H3 s3 => iteT ?_⟩
          have s23 := s2.trans s3
          refine ⟨.ref p1, rfl, p1, xs1, rfl, .inr (SqT.of (Kp.of s23 _ _ np1 hp1)), rfl, _, rfl, ?_⟩
          rw [hl1]
          refine ite2 (fun z => ?_) (fun z => ?_)
          · have z := veq z
            obtain ⟨d1, d2, rfl⟩ : ∃ d1 d2, rest = [d1, d2] := by
              match rest, (by omega : rest.length = 2) with
              | [a, b], _ => exact ⟨a, b, rfl⟩
            have e : say (.tuple [.str "either", d1, d2]) = b2 (.bo false) [say d1, say d2] := by rw [hsay, bw_ei, says2]
            refine ⟨.ref p1, rfl, call 0 d1 ps H3 (Kp.of s23) rfl (hf.same s23) (by omega) _ fun H4 k4 f4 => ⟨_, rfl, ?_⟩⟩
            cases hb : fitB k d1 with
            | false =>
              refine iteF ?_
              have : fitB (k + 1) (.tuple [.str "either", d1, d2]) = false ∧ ∀ s, say (.tuple [.str "either", d1, d2]) = some s → ¬ s.depth ≤ k + 1 := by
                cases h1 : say d1 with
                | none =>
                  rw [h1] at e
                  have e : say (.tuple [.str "either", d1, d2]) = none := e
                  exact ⟨fit_none e, fun s z => by rw [e] at z; cases z⟩
                | some t =>
                  rw [fit_some h1] at hb
                  have hb := of_decide_eq_false hb
                  cases h2 : say d2 with
                  | none =>
                    rw [h1, h2] at e
                    have e : say (.tuple [.str "either", d1, d2]) = none := e
                    exact ⟨fit_none e, fun s z => by rw [e] at z; cases z⟩
                  | some u =>
                    rw [h1, h2] at e
                    have e : say (.tuple [.str "either", d1, d2]) = some (.bo false t u) := e
                    have hd : ¬ (Say.bo false t u).depth ≤ k + 1 := by rw [depth_bo]; omega
                    exact ⟨by rw [fit_some e]; exact decide_eq_false hd, fun s z => by rw [e] at z; cases z; exact hd⟩
              rw [← this.1]
              exact q H4 k4 fun s z hz => absurd hz (this.2 s z)
            | true =>
              obtain ⟨t, h1, ht1⟩ : ∃ t, say d1 = some t ∧ t.depth ≤ k := by
                unfold fitB at hb
                split at hb
                · exact ⟨_, by assumption, of_decide_eq_true hb⟩
                · cases hb
              have f4 := f4 t h1 ht1
              have pl := Say.polys_len t
              have pp : 2 ^ t.depth ≤ 2 ^ k := Nat.pow_le_pow_right (by decide) ht1
              have ul := un_len ps t.polys
              refine iteT ⟨.ref p1, rfl, call 1 d2 (un ps t.polys) H4 k4 rfl f4 (by omega) _ fun H5 k5 f5 => ?_⟩
              rw [h1] at e
              cases h2 : say d2 with
              | none =>
                rw [h2] at e
                have e : say (.tuple [.str "either", d1, d2]) = none := e
                rw [fit_none h2, ← fit_none (k := k + 1) e]
                exact q H5 k5 fun s z => by rw [e] at z; cases z
              | some u =>
                rw [h2] at e
                have e : say (.tuple [.str "either", d1, d2]) = some (.bo false t u) := e
                have : fitB k d2 = fitB (k + 1) (.tuple [.str "either", d1, d2]) := by
                  rw [fit_some h2, fit_some e]
                  exact decide_eq_decide.mpr (by rw [depth_bo]; omega)
                rw [this]
                refine q H5 k5 fun s z hz => ?_
                rw [e] at z
                cases z
                rw [depth_bo] at hz
                have := f5 u h2 (by omega)
                rw [un_assoc] at this
                exact this
          · have z := vne z
            have e : say (.tuple (.str "either" :: rest)) = none := by rw [hsay, bw_ei]; exact b2_len (by rw [says_len]; omega)
            rw [← fit_none (k := k + 1) e]
            exact q H3 (Kp.of s23) fun s z => by rw [e] at z; cases z
        · refine ⟨.str _, rfl, in_new (l := ["true", "false"]) rfl (by decide) fun H2 s2 => iteF ?_⟩
          refine ⟨.str _, rfl, rfl, _, rfl, iteF ?_⟩
          refine ⟨.str _, rfl, in_new (l := ["both", "either"]) rfl (by decide) fun H3 s3 => iteF ?_⟩
          refine ⟨.str _, rfl, in_new (l := ["all", "some"]) rfl (by decide) fun H4 s4 => iteT ?_⟩
          have s24 := (s2.trans s3).trans s4
          refine ⟨.ref p1, rfl, p1, xs1, rfl, .inr (SqT.of (Kp.of s24 _ _ np1 hp1)), rfl, _, rfl, ?_⟩
          rw [hl1]
          refine ite2 (fun z => ?_) (fun z => ?_)
          · have z := veq z
            obtain ⟨l, d2, rfl⟩ : ∃ d1 d2, rest = [d1, d2] := by
              match rest, (by omega : rest.length = 2) with
              | [a, b], _ => exact ⟨a, b, rfl⟩
            have e : say (.tuple [.str "all", l, d2]) = bq true [l, d2] [say l, say d2] := by rw [hsay, bw_al, says2]
            refine ⟨.ref p1, rfl, ix_at (n := 0) (hd1.same s24) rfl fun x hx => ⟨D, x, l, n, rfl, hx, smr l (by simp), fun H5 s5 => ⟨_, rfl, ?_⟩⟩⟩
            have s25 := s24.trans s5
            cases hl : letB l with
            | false =>
              have e2 : letOf l = none := by
                unfold letB at hl
                cases h : letOf l with
                | none => rfl
                | some _ => rw [h] at hl; cases hl
              have e : say (.tuple [.str "all", l, d2]) = none := by rw [e]; unfold bq; simp only [e2]
              refine iteF ?_
              rw [← fit_none (k := k + 1) e]
              exact q H5 (Kp.of s25) fun s z => by rw [e] at z; cases z
            | true =>
              obtain ⟨x1, e2⟩ := letOf_b.mpr hl
              refine iteT ⟨.ref p1, rfl, call 1 d2 ps H5 (Kp.of s25) rfl (hf.same s25) (by omega) _ fun H6 k6 f6 => ?_⟩
              cases h2 : say d2 with
              | none =>
                have e : say (.tuple [.str "all", l, d2]) = none := by rw [e, h2]; unfold bq; simp only [e2]
                rw [fit_none h2, ← fit_none (k := k + 1) e]
                exact q H6 k6 fun s z => by rw [e] at z; cases z
              | some u =>
                have e : say (.tuple [.str "all", l, d2]) = some (.qu true x1 u) := by rw [e, h2]; unfold bq; simp only [e2]
                have : fitB k d2 = fitB (k + 1) (.tuple [.str "all", l, d2]) := by
                  rw [fit_some h2, fit_some e]
                  exact decide_eq_decide.mpr (by rw [depth_qu]; omega)
                rw [this]
                refine q H6 k6 fun s z hz => ?_
                rw [e] at z
                cases z
                rw [depth_qu] at hz
                exact f6 u h2 (by omega)
          · have z := vne z
            have e : say (.tuple (.str "all" :: rest)) = none := by rw [hsay, bw_al]; exact bq_len (by omega)
            rw [← fit_none (k := k + 1) e]
            exact q H4 (Kp.of s24) fun s z => by rw [e] at z; cases z
        · refine ⟨.str _, rfl, in_new (l := ["true", "false"]) rfl (by decide) fun H2 s2 => iteF ?_⟩
          refine ⟨.str _, rfl, rfl, _, rfl, iteF ?_⟩
          refine ⟨.str _, rfl, in_new (l := ["both", "either"]) rfl (by decide) fun H3 s3 => iteF ?_⟩
          refine ⟨.str _, rfl, in_new (l := ["all", "some"]) rfl (by decide) fun H4 s4 => iteT ?_⟩
          have s24 := (s2.trans s3).trans s4
          refine ⟨.ref p1, rfl, p1, xs1, rfl, .inr (SqT.of (Kp.of s24 _ _ np1 hp1)), rfl, _, rfl, ?_⟩
          rw [hl1]
          refine ite2 (fun z => ?_) (fun z => ?_)
          · have z := veq z
            obtain ⟨l, d2, rfl⟩ : ∃ d1 d2, rest = [d1, d2] := by
              match rest, (by omega : rest.length = 2) with
              | [a, b], _ => exact ⟨a, b, rfl⟩
            have e : say (.tuple [.str "some", l, d2]) = bq false [l, d2] [say l, say d2] := by rw [hsay, bw_so, says2]
            refine ⟨.ref p1, rfl, ix_at (n := 0) (hd1.same s24) rfl fun x hx => ⟨D, x, l, n, rfl, hx, smr l (by simp), fun H5 s5 => ⟨_, rfl, ?_⟩⟩⟩
            have s25 := s24.trans s5
            cases hl : letB l with
            | false =>
              have e2 : letOf l = none := by
                unfold letB at hl
                cases h : letOf l with
                | none => rfl
                | some _ => rw [h] at hl; cases hl
              have e : say (.tuple [.str "some", l, d2]) = none := by rw [e]; unfold bq; simp only [e2]
              refine iteF ?_
              rw [← fit_none (k := k + 1) e]
              exact q H5 (Kp.of s25) fun s z => by rw [e] at z; cases z
            | true =>
              obtain ⟨x1, e2⟩ := letOf_b.mpr hl
              refine iteT ⟨.ref p1, rfl, call 1 d2 ps H5 (Kp.of s25) rfl (hf.same s25) (by omega) _ fun H6 k6 f6 => ?_⟩
              cases h2 : say d2 with
              | none =>
                have e : say (.tuple [.str "some", l, d2]) = none := by rw [e, h2]; unfold bq; simp only [e2]
                rw [fit_none h2, ← fit_none (k := k + 1) e]
                exact q H6 k6 fun s z => by rw [e] at z; cases z
              | some u =>
                have e : say (.tuple [.str "some", l, d2]) = some (.qu false x1 u) := by rw [e, h2]; unfold bq; simp only [e2]
                have : fitB k d2 = fitB (k + 1) (.tuple [.str "some", l, d2]) := by
                  rw [fit_some h2, fit_some e]
                  exact decide_eq_decide.mpr (by rw [depth_qu]; omega)
                rw [this]
                refine q H6 k6 fun s z hz => ?_
                rw [e] at z
                cases z
                rw [depth_qu] at hz
                exact f6 u h2 (by omega)
          · have z := vne z
            have e : say (.tuple (.str "some" :: rest)) = none := by rw [hsay, bw_so]; exact bq_len (by omega)
            rw [← fit_none (k := k + 1) e]
            exact q H4 (Kp.of s24) fun s z => by rw [e] at z; cases z
        · have nt : ∀ l : List Str, (∀ x ∈ l, x ∈ words) → decide (wd ∈ l) = false := fun l h => decide_eq_false fun m => hw (h _ m)
          refine ⟨.str _, rfl, in_new (l := ["true", "false"]) rfl (by decide) fun H2 s2 => ?_⟩
          rw [nt _ (by decide)]
          refine iteF ⟨.str _, rfl, rfl, _, rfl, ?_⟩
          rw [show decide (V.str wd = V.str "not") = false from decide_eq_false fun e => hw (by injection e with e; rw [e]; decide)]
          refine iteF ⟨.str _, rfl, in_new (l := ["both", "either"]) rfl (by decide) fun H3 s3 => ?_⟩
          rw [nt _ (by decide)]
          refine iteF ⟨.str _, rfl, in_new (l := ["all", "some"]) rfl (by decide) fun H4 s4 => ?_⟩
          rw [nt _ (by decide)]
          have s24 := (s2.trans s3).trans s4
          obtain ⟨rv, hrv, hrs⟩ := hrz wd
          refine iteF ⟨.str wd, rfl, wd, rv, rfl, rfl, hrv, _, rfl, ?_⟩
          rw [hrs, decide_eq_true hr2]
          refine iteF ⟨.ref p1, rfl, p1, xs1, rfl, .inr (SqT.of (Kp.of s24 _ _ np1 hp1)), rfl, _, rfl, ?_⟩
          rw [hl1]
          have hre := bw_re hr2 rest (says rest)
          refine ite2 (fun z => ?_) (fun z => ?_)
          · have z : rest.length ≠ 1 := fun e => by rw [e] at z; exact absurd z (by decide)
            have e : say (.tuple (.str wd :: rest)) = none := by rw [hsay, hre]; exact br_len z
            rw [← fit_none (k := k + 1) e]
            exact q H4 (Kp.of s24) fun s z => by rw [e] at z; cases z
          · have z : rest.length = 1 := by
              refine Decidable.byContradiction fun ne => z ?_
              rw [decide_eq_false fun e => ne (by injection e with e; omega)]
              rfl
            obtain ⟨d1, rfl⟩ : ∃ d1, rest = [d1] := List.length_eq_one_iff.mp z
            refine ⟨.ref p1, rfl, ix_at (n := 0) (hd1.same s24) rfl fun x hx => ⟨D, x, d1, n, rfl, hx, smr d1 (by simp), fun H5 s5 => ⟨_, rfl, ?_⟩⟩⟩
            have s25 := s24.trans s5
            have e : say (.tuple [.str wd, d1]) = if smallB d1 then some (.re wd d1) else none := by rw [hsay, hre]; rfl
            cases hsm : smallB d1 with
            | false =>
              rw [hsm, if_neg Bool.false_ne_true] at e
              refine iteT ?_
              rw [← fit_none (k := k + 1) e]
              exact q H5 (Kp.of s25) fun s z => by rw [e] at z; cases z
            | true =>
              rw [hsm, if_pos rfl] at e
              obtain ⟨ik, dk, ds1, rfl, _⟩ := small_k hsm
              refine iteF ⟨.ref D, rfl, .ref p1, rfl, ix_at (n := 0) (hd1.same s25) rfl fun y hy => ?_⟩
              obtain ⟨b, ys, rfl, nb2, hb2, hy2⟩ := da_tup hy
              refine ⟨D, b, _, ps, rfl, rfl, rfl, hy, ik, by omega, hf.same s25, by omega, fun H6 k6 f6 => ?_⟩
              have e1 : fitB (k + 1) (.tuple [.str wd, .tuple ds1]) = true := by
                rw [fit_some e]
                exact decide_eq_true (by show 1 ≤ k + 1; omega)
              rw [← e1]
              refine q H6 ((Kp.of s25).trans k6) fun s z _ => ?_
              rw [e] at z
              cases z
              exact fd_put f6
        · have nt : ∀ l : List Str, (∀ x ∈ l, x ∈ words) → decide (wd ∈ l) = false := fun l h => decide_eq_false fun m => hw (h _ m)
          refine ⟨.str _, rfl, in_new (l := ["true", "false"]) rfl (by decide) fun H2 s2 => ?_⟩
          rw [nt _ (by decide)]
          refine iteF ⟨.str _, rfl, rfl, _, rfl, ?_⟩
          rw [show decide (V.str wd = V.str "not") = false from decide_eq_false fun e => hw (by injection e with e; rw [e]; decide)]
          refine iteF ⟨.str _, rfl, in_new (l := ["both", "either"]) rfl (by decide) fun H3 s3 => ?_⟩
          rw [nt _ (by decide)]
          refine iteF ⟨.str _, rfl, in_new (l := ["all", "some"]) rfl (by decide) fun H4 s4 => ?_⟩
          rw [nt _ (by decide)]
          have s24 := (s2.trans s3).trans s4
          obtain ⟨rv, hrv, hrs⟩ := hrz wd
          refine iteF ⟨.str wd, rfl, wd, rv, rfl, rfl, hrv, _, rfl, ?_⟩
          rw [hrs, decide_eq_false hr2]
          refine iteT ?_
          have e : say (.tuple (.str wd :: rest)) = none := by rw [hsay]; exact bw_no hw hr2 _ _
          rw [← fit_none (k := k + 1) e]
          exact q H4 (Kp.of s24) fun s z => by rw [e] at z; cases z
end
end K44

set_option Elab.async false
set_option linter.all false
set_option maxRecDepth 100000
set_option maxHeartbeats 8000000
local macro_rules | `(tactic| walk_at "rd") => `(tactic| dsimp only [Evl.tCut, L2.tSeq, L2.tNext, L2.tRet, L2.tRetN, L2.tAsg, L2.gName, L2.tIfS, L2.tDrop, L2.tCons, L2.tNil, L2.tC, L2.tVar, L2.tCB, L2.tAndV, L2.tOrV, L2.tNotV, L2.tB, L2.tTest, L2.tOp, L2.tUn, L2.tNot, L2.tAnd, L2.tOr, L2.tIf, L2.tCall, L2.tTup, L2.tLst, L2.tNotT, L2.tYes, L2.gTup, L2.gCons, L2.gNil, L2.gSub, L2.tBM0, L2.tBM, L2.tWhile, L2.tFor, L2.iRng1, L2.iRng2, L2.tAugS, Tw.iEnumT, L2.tCKw, L2.tAug, L2.ipI, RT.iRevA, L2.tPar, L2.tPar3, L2.tSl, L2.tNoPart, L2.tPart, Tw.tRevT, Tw.tFput])
namespace K44
open PySem PySem.Spec PyProof.Rows L2 Tw
/-- the saying that the datum is, if it is one -/
def dueB (d : PyData) : Bool := match say d with
  | some s => decide (s.depth ≤ 10) && decide (s.polys.length ≤ 8)
  | none => false
def spUn : Sp := fun vs H Q _ => ∃ (a : Addr) (v : V) (s : Say) (n : Nat), vs = [v] ∧ H a ≠ none ∧ Da a H v s.d ∧ Sm n 1000 s.d ∧ say s.d = some s ∧ s.depth ≤ 10 ∧ ∀ v' D H', Same H H' → H' D ≠ none → (∀ zs, H' D ≠ some (.tup zs)) → Da D H' v' (.tuple s.polys) → Q v' H'
def spCheck : Sp := fun vs H Q _ => ∃ (a : Addr) (v : V) (s : Say) (n : Nat), vs = [v] ∧ H a ≠ none ∧ Da a H v s.d ∧ Sm n 1000 s.d ∧ say s.d = some s ∧ s.depth ≤ 10 ∧ s.polys.length ≤ 8 ∧ ∀ v' H', Same H H' → Q v' H'
def spPolysOf : Sp := fun vs H Q _ => ∃ (a : Addr) (v : V) (s : Say) (n : Nat), vs = [v] ∧ H a ≠ none ∧ Da a H v s.d ∧ Sm n 1000 s.d ∧ say s.d = some s ∧ s.depth ≤ 10 ∧ s.polys.length ≤ 8 ∧ ∀ v' D H', Same H H' → H' D ≠ none → (∀ zs, H' D ≠ some (.tup zs)) → Da D H' v' (.tuple s.polys) → Q v' H'
def spDepthOf : Sp := fun vs H Q _ => ∃ (a : Addr) (v : V) (s : Say) (n : Nat), vs = [v] ∧ H a ≠ none ∧ Da a H v s.d ∧ Sm n 1000 s.d ∧ say s.d = some s ∧ s.depth ≤ 10 ∧ s.polys.length ≤ 8 ∧ ∀ H', Same H H' → Q (.int (s.depth : Int)) H'
def spDepth (N : Nat) : Sp := fun vs H Q _ => ∃ (a : Addr) (v : V) (s : Say), vs = [v] ∧ Da a H v s.d ∧ s.ok ∧ s.depth ≤ N ∧ ∀ H', Same H H' → Q (.int (s.depth : Int)) H'
theorem da_of {a D : Addr} {H : Hp} {v : V} {d : PyData} (h : Da a H v d) : True := trivial
theorem rel_word {w : Str} (h : w ∈ rels) (l : List Str) (hl : ∀ x ∈ l, x ∈ words) : decide (w ∈ l) = false := decide_eq_false fun m => words_apart w h (hl _ m)
theorem rel_not {w x : Str} (h : w ∈ rels) (hx : x ∈ words) : decide (V.str w = V.str x) = false := decide_eq_false fun e => words_apart w h (by injection e with e; rw [e]; exact hx)
section
variable {P : Program} {w : World} {K : PySem.W.Frag} {mg : Str → Option Value} {base : Heap}
theorem fit_zero (D : Def K mg "does_fit" sFit ["value", "deep", "found"]) (nb : Nb mg) : Cal P w K mg base "does_fit" 5 ["value", "deep", "found"] (spFit P w 0) := by
  refine D.ok scFit (fit_many 0) (fun f cdv A out s H vs Q E hr h => ?_)
  obtain ⟨D, v, d, n, ps, rfl, hd, hs, hf, hlen, q⟩ := h
  refine ⟨_, pss_cons (ps_if (PW.pt (pw_or (pt_cmpR op_eq (pv 1) pe_int (nomark _)) (pw_or (pt_not (pt_val (pe_callB (id := "isinstance") (r := rIsi K) call_isi (by rfl) nb.isi (by decide +kernel) (pa_cons (pv 0) (pa_cons (pe_bltn (v := .ty "tuple") (by rfl) nb.tup (by decide +kernel) rfl) pa_nil))))) (pw_or (pt_not (pt_truth (pv 0) (fun _ => rfl))) (pw_or1 (pt_not (pt_val (pe_callB (id := "isinstance") (r := rIsi K) call_isi (by rfl) nb.isi (by decide +kernel) (pa_cons (pe_ix (r := rIxT K) ix_tup (pv 0) pe_int (fun _ _ => rfl)) (pa_cons (pe_bltn (v := .ty "str") (by rfl) nb.str (by decide +kernel) rfl) pa_nil)))))))))) (pss_one (ps_ret pe_bl)) pss_nil) pss_dead, ?_⟩
  walk_at "rd"
  refine ⟨.int ((0 : Nat) : Int), rfl, rfl, _, rfl, ite2 (fun _ => iteT ?_) (fun z => absurd (decide_eq_true rfl) z)⟩
  have e : fitB 0 d = false := by
    unfold fitB
    split
    · rename_i s _
      exact decide_eq_false (by have := s.depth_pos; omega)
    · rfl
  rw [← e]
  exact q H (Kp.refl _ _) fun s _ z => absurd z (by have := s.depth_pos; omega)
theorem fit_all (D : Def K mg "does_fit" sFit ["value", "deep", "found"]) (nb : Nb mg) (cs : Cs K w mg) (cL : Cal P w K mg base "is_letter" 1 ["value"] (spB letB)) (cS : Cal P w K mg base "is_small_poly" 4 ["value"] (spB smallB)) : ∀ k : Nat, Cal P w K mg base "does_fit" (k + 5) ["value", "deep", "found"] (spFit P w k)
  | 0 => fit_zero D nb
  | k + 1 => fit_step D nb cs cL cS (fit_all D nb cs cL cS k)
theorem scUnlike : FnScope ["saying", "found"] ["saying"] (defScope sUnlike) := ⟨rfl, rfl, rfl, by decide +kernel, rfl, by decide +kernel, by decide +kernel⟩
theorem ok_unlike (D : Def K mg "unlike_polys" sUnlike ["saying"]) (nb : Nb mg) (cs : Cs K w mg) (cF : Cal P w K mg base "does_fit" 15 ["value", "deep", "found"] (spFit P w 10)) : Cal P w K mg base "unlike_polys" 16 ["saying"] spUn := by
  obtain ⟨t10, h10⟩ := cs.dee
  refine D.ok scUnlike (fun vs H Q E h => ?_) (fun f cdv A out s H vs Q E hr h => ?_)
  · obtain ⟨a, v, s, n, rfl, _⟩ := h; rfl
  obtain ⟨a, v, t, n, rfl, ha, hd, hs, hsay, h10', q⟩ := h
  refine ⟨_, (pss_cons (ps_set (i := 1) scUnlike.nd rfl (Or.inl rfl) pe_fnew)
    (pss_cons (ps_if (pt_not (pt_val (pe_cal cF hr (by decide) (by rfl) (pa_cons (pv 0) (pa_cons (pe_glob (v := .int 10) (by rfl) h10 ⟨t10, rfl⟩) (pa_cons (pv 1) pa_nil)))))) pss_dead pss_nil)
    (pss_one (ps_ret (pe_callTy (T := "tuple") call_tuple_of (by rfl) nb.tup (by decide +kernel) (pa_cons (pe_callTy (T := "list") (call_listF rfl) (by rfl) nb.lst (by decide +kernel) (pa_cons (pv 1) pa_nil)) pa_nil)))))), ?_⟩
  walk_at "rd"
  intro D H1 s1 nD f1 dn _
  refine ⟨v, rfl, .ref D, rfl, D, v, t.d, n, [], rfl, dn _ _ _ hd, hs, f1, by decide, fun H2 k2 f2 => ⟨_, rfl, ?_⟩⟩
  have s2 := same_kp s1 nD k2
  have f2 := f2 t hsay h10'
  rw [un_nil] at f2
  rw [fit_some hsay, decide_eq_true h10']
  have pl := Say.polys_len t
  have pp : 2 ^ t.depth ≤ 2 ^ 10 := Nat.pow_le_pow_right (by decide) h10'
  refine iteF ⟨.ref D, rfl, D, t.polys, rfl, f2, by omega, fun l ys nl hy => ?_⟩
  have s3 := same_new (o := .lst ys) nl
  refine ⟨l, ys, rfl, .inl ⟨SqL.of upd_same, fun z nz => ?_⟩⟩
  have s4 := same_new (o := .tup ys) nz
  have hD := same_some s3 f2.some
  have hO : ∀ zs, upd H2 l (.lst ys) D ≠ some (.tup zs) := by
    obtain ⟨es, e, _⟩ := f2
    rw [s3 _ _ e]
    unfold FdO
    nofun
  exact q _ D _ (s2.trans (s3.trans s4)) (same_some s4 hD) (fun zs z => by
    cases e : upd H2 l (.lst ys) D with
    | none => exact hD e
    | some o => rw [s4 _ _ e] at z; cases z; exact hO zs e) (.tup (new_ne hD nz) upd_same (hy.same (s3.trans s4)))
theorem scCheck : FnScope ["saying", "many"] ["saying"] (defScope sCheck) := ⟨rfl, rfl, rfl, by decide +kernel, rfl, by decide +kernel, by decide +kernel⟩
theorem ok_check (D : Def K mg "check_saying" sCheck ["saying"]) (nb : Nb mg) (cs : Cs K w mg) (cU : Cal P w K mg base "unlike_polys" 16 ["saying"] spUn) : Cal P w K mg base "check_saying" 17 ["saying"] spCheck := by
  obtain ⟨t8, h8⟩ := cs.mun
  refine D.ok scCheck (fun vs H Q E h => ?_) (fun f cdv A out s H vs Q E hr h => ?_)
  · obtain ⟨a, v, s, n, rfl, _⟩ := h; rfl
  obtain ⟨a, v, t, n, rfl, ha, hd, hs, hsay, h10', hp, q⟩ := h
  refine ⟨_, (pss_cons (ps_set (i := 1) scCheck.nd rfl (Or.inl rfl) (pe_callB (id := "len") (r := rLn K) call_len_seq (by rfl) nb.len PySem.boot_len (pa_cons (pe_cal cU hr (by decide) (by rfl) (pa_cons (pv 0) pa_nil)) pa_nil)))
    (pss_one (ps_if (pt_cmpR op_gt (pv 1) (pe_glob (v := .int 8) (by rfl) h8 ⟨t8, rfl⟩) (nomark _)) pss_dead pss_nil))), ?_⟩
  walk_at "rd"
  refine ⟨v, rfl, a, v, t, n, rfl, ha, hd, hs, hsay, h10', fun v' D H1 s1 hD _ d1 => ?_⟩
  obtain ⟨p, xs, rfl, np, hpp, hx⟩ := da_tup d1
  refine ⟨p, xs, rfl, .inr (SqT.of hpp), _, rfl, _, _, rfl, rfl, _, rfl, ?_⟩
  rw [hx.len]
  refine ite2 (fun z => absurd (of_decide_eq_true z) (by omega)) (fun _ => q _ H1 s1)
theorem scDepthIn : FnScope ["saying", "word"] ["saying"] (defScope sDepthIn) := ⟨rfl, rfl, rfl, by decide +kernel, rfl, by decide +kernel, by decide +kernel⟩
theorem depth_step {N : Nat} (D : Def K mg "depth_in" sDepthIn ["saying"]) (nb : Nb mg) (c : Cal P w K mg base "depth_in" (N + 1) ["saying"] (spDepth N)) : Cal P w K mg base "depth_in" (N + 2) ["saying"] (spDepth (N + 1)) := by
  refine D.ok scDepthIn (fun vs H Q E h => ?_) (fun f cdv A out s H vs Q E hr h => ?_)
  · obtain ⟨a, v, s, rfl, _⟩ := h; rfl
  obtain ⟨a, v, t, rfl, hd, ho, hN, q⟩ := h
  refine ⟨_, (pss_cons (ps_set (i := 1) scDepthIn.nd rfl (Or.inl rfl) (pe_ix (r := rIxT K) ix_tup (pv 0) pe_int (fun _ _ => rfl)))
    (pss_cons (ps_if (pt_cmpR op_eq (pv 1) pe_str (nomark _)) (pss_one (ps_ret (pe_op op_add pe_int (pe_cal c hr (by omega) (by rfl) (pa_cons (pe_ix (r := rIxT K) ix_tup (pv 0) pe_int (fun _ _ => rfl)) pa_nil))))) pss_nil)
    (pss_cons (ps_if (pt_cmpR op_in_seq (pv 1) (pe_tup (pa_cons pe_str (pa_cons pe_str pa_nil))) (by rfl)) (pss_one (ps_ret (pe_op op_add pe_int (pe_callB (id := "max") (call_max2 rfl) (by rfl) nb.max (by decide +kernel) (pa_cons (pe_cal c hr (by omega) (by rfl) (pa_cons (pe_ix (r := rIxT K) ix_tup (pv 0) pe_int (fun _ _ => rfl)) pa_nil)) (pa_cons (pe_cal c hr (by omega) (by rfl) (pa_cons (pe_ix (r := rIxT K) ix_tup (pv 0) pe_int (fun _ _ => rfl)) pa_nil)) pa_nil)))))) pss_nil)
    (pss_one (ps_ret (pe_ifExp (pt_cmpR op_in_seq (pv 1) (pe_tup (pa_cons pe_str (pa_cons pe_str pa_nil))) (by rfl)) (pe_op op_add pe_int (pe_cal c hr (by omega) (by rfl) (pa_cons (pe_ix (r := rIxT K) ix_tup (pv 0) pe_int (fun _ _ => rfl)) pa_nil))) pe_int)))))), ?_⟩
  walk_at "rd"
  cases t with
  | tt =>
    refine ⟨v, rfl, ix_at (n := 0) hd rfl fun x hx => ?_⟩
    cases hx
    refine ⟨.str _, rfl, rfl, _, rfl, iteF ⟨.str _, rfl, in_new (l := ["both", "either"]) rfl (by decide) fun H2 s2 => iteF ⟨.str _, rfl, in_new (l := ["all", "some"]) rfl (by decide) fun H3 s3 => iteF (q H3 (s2.trans s3))⟩⟩⟩
  | ff =>
    refine ⟨v, rfl, ix_at (n := 0) hd rfl fun x hx => ?_⟩
    cases hx
    refine ⟨.str _, rfl, rfl, _, rfl, iteF ⟨.str _, rfl, in_new (l := ["both", "either"]) rfl (by decide) fun H2 s2 => iteF ⟨.str _, rfl, in_new (l := ["all", "some"]) rfl (by decide) fun H3 s3 => iteF (q H3 (s2.trans s3))⟩⟩⟩
  | nn u =>
    rw [depth_nn] at hN
    refine ⟨v, rfl, ix_at (n := 0) hd rfl fun x hx => ?_⟩
    cases hx
    refine ⟨.str _, rfl, rfl, _, rfl, iteT ⟨v, rfl, ix_at (n := 1) hd rfl fun x hx => ⟨a, x, u, rfl, hx, ho, by omega, fun H2 s2 => ⟨_, _, rfl, rfl, q H2 s2⟩⟩⟩⟩
  | bo b u u2 =>
    rw [depth_bo] at hN
    refine ⟨v, rfl, ix_at (n := 0) hd rfl fun x hx => ?_⟩
    cases hx
    have hm : ((if (u2.depth : Int) > (u.depth : Int) then (u2.depth : Int) else (u.depth : Int)) : Int) = ((max u.depth u2.depth : Nat) : Int) := by split <;> omega
    have fin : ∀ H2, Same H H2 → ∃ v', some (some v) = some (some v') ∧ rIxT K v' (.int 1) H2 fun x H3 => spDepth N [x] H3 (fun y H4 => ∃ v', some (some v) = some (some v') ∧ rIxT K v' (.int 2) H4 fun x2 H5 => spDepth N [x2] H5 (fun y2 H6 => ∃ i j, [y, y2] = [.int i, .int j] ∧ ∃ k l, V.int 1 = .int k ∧ V.int (if j > i then j else i) = .int l ∧ Q (.int (k + l)) H6) E0) E0 := fun H2 s2 =>
      ⟨v, rfl, ix_at (n := 1) (hd.same s2) rfl fun x hx => ⟨a, x, u, rfl, hx, ho.1, by omega, fun H3 s3 => ⟨v, rfl, ix_at (n := 2) (hd.same (s2.trans s3)) rfl fun y hy => ⟨a, y, u2, rfl, hy, ho.2, by omega, fun H4 s4 => ⟨_, _, rfl, _, _, rfl, rfl, by rw [hm]; exact q H4 ((s2.trans s3).trans s4)⟩⟩⟩⟩⟩
    cases b with
    | true => exact ⟨.str _, rfl, rfl, _, rfl, iteF ⟨.str _, rfl, in_new (l := ["both", "either"]) rfl (by decide) fun H2 s2 => iteT (fin H2 s2)⟩⟩
    | false => exact ⟨.str _, rfl, rfl, _, rfl, iteF ⟨.str _, rfl, in_new (l := ["both", "either"]) rfl (by decide) fun H2 s2 => iteT (fin H2 s2)⟩⟩
  | qu al x1 u =>
    rw [depth_qu] at hN
    refine ⟨v, rfl, ix_at (n := 0) hd rfl fun x hx => ?_⟩
    cases hx
    have fin : ∀ H2, Same H H2 → ∃ v', some (some v) = some (some v') ∧ rIxT K v' (.int 2) H2 fun x H3 => spDepth N [x] H3 (fun y H4 => ∃ i j, V.int 1 = .int i ∧ y = .int j ∧ Q (.int (i + j)) H4) E0 := fun H2 s2 =>
      ⟨v, rfl, ix_at (n := 2) (hd.same s2) rfl fun x hx => ⟨a, x, u, rfl, hx, ho, by omega, fun H3 s3 => ⟨_, _, rfl, rfl, q H3 (s2.trans s3)⟩⟩⟩
    cases al with
    | true => exact ⟨.str _, rfl, rfl, _, rfl, iteF ⟨.str _, rfl, in_new (l := ["both", "either"]) rfl (by decide) fun H2 s2 => iteF ⟨.str _, rfl, in_new (l := ["all", "some"]) rfl (by decide) fun H3 s3 => iteT (fin H3 (s2.trans s3))⟩⟩⟩
    | false => exact ⟨.str _, rfl, rfl, _, rfl, iteF ⟨.str _, rfl, in_new (l := ["both", "either"]) rfl (by decide) fun H2 s2 => iteF ⟨.str _, rfl, in_new (l := ["all", "some"]) rfl (by decide) fun H3 s3 => iteT (fin H3 (s2.trans s3))⟩⟩⟩
  | re wd p =>
    refine ⟨v, rfl, ix_at (n := 0) hd rfl fun x hx => ?_⟩
    cases hx
    refine ⟨.str _, rfl, rfl, _, rfl, ?_⟩
    rw [rel_not ho.1 (by decide)]
    refine iteF ⟨.str _, rfl, in_new (l := ["both", "either"]) rfl (by decide) fun H2 s2 => ?_⟩
    rw [rel_word ho.1 _ (by decide)]
    refine iteF ⟨.str _, rfl, in_new (l := ["all", "some"]) rfl (by decide) fun H3 s3 => ?_⟩
    rw [rel_word ho.1 _ (by decide)]
    exact iteF (q H3 (s2.trans s3))
theorem depth_all (D : Def K mg "depth_in" sDepthIn ["saying"]) (nb : Nb mg) : ∀ N : Nat, Cal P w K mg base "depth_in" (N + 1) ["saying"] (spDepth N)
  | 0 => by
    have no : ∀ vs H Q E, ¬ spDepth 0 vs H Q E := fun vs H Q E h => by
      obtain ⟨a, v, s, _, _, _, h1, _⟩ := h
      have := s.depth_pos
      omega
    obtain ⟨f, fd, F, m, b⟩ := D
    exact ⟨f, fd, ⟨fun vs H Q E h => absurd h (no vs H Q E), fun A out s H g us vs Q E _ _ _ _ h => absurd h (no vs H Q E)⟩, m, F.kp, b, fdAt F⟩
  | N + 1 => depth_step D nb (depth_all D nb N)
theorem scDepthOf : FnScope ["saying"] ["saying"] (defScope sDepthOf) := ⟨rfl, rfl, rfl, by decide +kernel, rfl, by decide +kernel, by decide +kernel⟩
theorem ok_depthOf (D : Def K mg "depth_of" sDepthOf ["saying"]) (nb : Nb mg) (cC : Cal P w K mg base "check_saying" 17 ["saying"] spCheck) (cD : Cal P w K mg base "depth_in" 11 ["saying"] (spDepth 10)) : Cal P w K mg base "depth_of" 18 ["saying"] spDepthOf := by
  refine D.ok scDepthOf (fun vs H Q E h => ?_) (fun f cdv A out s H vs Q E hr h => ?_)
  · obtain ⟨a, v, s, n, rfl, _⟩ := h; rfl
  obtain ⟨a, v, t, n, rfl, ha, hd, hs, hsay, h10', hp, q⟩ := h
  refine ⟨_, (pss_cons (ps_expr (pe_cal cC hr (by decide) (by rfl) (pa_cons (pv 0) pa_nil)))
    (pss_one (ps_ret (pe_cal cD hr (by decide) (by rfl) (pa_cons (pv 0) pa_nil))))), ?_⟩
  walk_at "rd"
  exact ⟨v, rfl, a, v, t, n, rfl, ha, hd, hs, hsay, h10', hp, fun _ H1 s1 => ⟨v, rfl, a, v, t, rfl, hd.same s1, (say_some hsay).2, h10', fun H2 s2 => q H2 (s1.trans s2)⟩⟩
end
end K44

set_option Elab.async false
set_option linter.all false
set_option maxRecDepth 100000
set_option maxHeartbeats 8000000
local macro_rules | `(tactic| walk_at "rd") => `(tactic| dsimp only [Evl.tCut, L2.tSeq, L2.tNext, L2.tRet, L2.tRetN, L2.tAsg, L2.gName, L2.tIfS, L2.tDrop, L2.tCons, L2.tNil, L2.tC, L2.tVar, L2.tCB, L2.tAndV, L2.tOrV, L2.tNotV, L2.tB, L2.tTest, L2.tOp, L2.tUn, L2.tNot, L2.tAnd, L2.tOr, L2.tIf, L2.tCall, L2.tTup, L2.tLst, L2.tNotT, L2.tYes, L2.gTup, L2.gCons, L2.gNil, L2.gSub, L2.tBM0, L2.tBM, L2.tWhile, L2.tFor, L2.iRng1, L2.iRng2, L2.tAugS, Tw.iEnumT, L2.tCKw, L2.tAug, L2.ipI, RT.iRevA, L2.tPar, L2.tPar3, L2.tSl, L2.tNoPart, L2.tPart, Tw.tRevT, Tw.tFput])
namespace K44
open PySem PySem.Spec PyProof.Rows L2 Tw
/-! how large data are -/
mutual
def nd : PyData → Nat
  | .str x => x.cps.size + 1
  | .list ds => nd1 ds + 1
  | .tuple ds => nd1 ds + 1
  | _ => 1
def nd1 : List PyData → Nat
  | [] => 0
  | d :: ds => nd d + nd1 ds
end
mutual
def lf (b : Nat) : PyData → Bool
  | .int i => decide (i.natAbs ≤ b)
  | .str x => x.cps.toList.all fun c => decide (c < 16 ^ 8)
  | .list ds => lf1 b ds
  | .tuple ds => lf1 b ds
  | .dict kvs => kvs.isEmpty
  | _ => true
def lf1 (b : Nat) : List PyData → Bool
  | [] => true
  | d :: ds => lf b d && lf1 b ds
end
/-- leaves no longer than b, w things in all -/
def Ls (b w : Nat) (d : PyData) : Prop := lf b d = true ∧ nd d ≤ w
theorem lf1_mem {b : Nat} : ∀ {ds : List PyData} {d : PyData}, lf1 b ds = true → d ∈ ds → lf b d = true
  | e :: ds, d, h, m => by
    rw [lf1, Bool.and_eq_true] at h
    rcases List.mem_cons.mp m with rfl | m
    · exact h.1
    · exact lf1_mem h.2 m
theorem lf1_of {b : Nat} : ∀ {ds : List PyData}, (∀ d ∈ ds, lf b d = true) → lf1 b ds = true
  | [], _ => by rw [lf1]
  | e :: ds, h => by rw [lf1, h e (by simp), lf1_of fun d m => h d (by simp [m])]; rfl
theorem nd1_mem : ∀ {ds : List PyData} {d : PyData}, d ∈ ds → nd d ≤ nd1 ds
  | e :: ds, d, m => by
    rw [nd1]
    rcases List.mem_cons.mp m with rfl | m
    · omega
    · have := nd1_mem m; omega
theorem nd1_app : ∀ ds es : List PyData, nd1 (ds ++ es) = nd1 ds + nd1 es
  | [], es => by rw [List.nil_append, nd1]; omega
  | d :: ds, es => by rw [List.cons_append, nd1, nd1, nd1_app ds es]; omega
theorem nd1_rev : ∀ ds : List PyData, nd1 ds.reverse = nd1 ds
  | [] => rfl
  | d :: ds => by rw [List.reverse_cons, nd1_app, nd1_rev ds, nd1, nd1, nd1]; omega
theorem nd1_cut (ds : List PyData) (k : Nat) : nd1 (ds.take k) + nd1 (ds.drop k) = nd1 ds := by
  rw [← nd1_app, List.take_append_drop]
theorem nd1_take (ds : List PyData) (k : Nat) : nd1 (ds.take k) ≤ nd1 ds := by have := nd1_cut ds k; omega
theorem nd1_drop (ds : List PyData) (k : Nat) : nd1 (ds.drop k) ≤ nd1 ds := by have := nd1_cut ds k; omega
theorem nd1_cutD (ds : List PyData) (lo hi : Option Int) : nd1 (Tw.cutD ds lo hi) ≤ nd1 ds := Nat.le_trans (nd1_take _ _) (nd1_drop _ _)
theorem nd_pos (d : PyData) : 1 ≤ nd d := by
  cases d <;> simp only [nd] <;> omega
theorem nd1_two (ds : List PyData) (j : Nat) : nd1 (Tw.cutD ds none (some (j : Int))) + nd1 (Tw.cutD ds (some ((j + 1 : Nat) : Int)) none) ≤ nd1 ds := by
  unfold Tw.cutD
  rw [HT.sIx_nat, HT.sIx_none, HT.sIx_nat, HT.sIx_none, List.drop_zero, Nat.sub_zero]
  have h1 := nd1_take (ds.drop (min (j + 1) ds.length)) (ds.length - min (j + 1) ds.length)
  by_cases c : j < ds.length
  · rw [Nat.min_eq_left (by omega : j ≤ ds.length)]
    rw [Nat.min_eq_left (by omega : j + 1 ≤ ds.length)] at h1 ⊢
    have h2 := nd1_cut ds j
    have h3 : nd1 (ds.drop (j + 1)) ≤ nd1 (ds.drop j) := by
      rw [← List.drop_drop]; exact nd1_drop _ 1
    omega
  · rw [Nat.min_eq_right (by omega : ds.length ≤ j)]
    rw [Nat.min_eq_right (by omega : ds.length ≤ j + 1)] at h1 ⊢
    rw [List.drop_length] at h1 ⊢
    have h2 := nd1_take ds ds.length
    have h4 : nd1 [] = 0 := rfl
    omega
mutual
theorem lf_up {b c : Nat} (h : b ≤ c) : ∀ {d : PyData}, lf b d = true → lf c d = true
  | .int i, z => by rw [lf] at z ⊢; exact decide_eq_true (Nat.le_trans (of_decide_eq_true z) h)
  | .str x, z => by rw [lf] at z ⊢; exact z
  | .list ds, z => by rw [lf] at z ⊢; exact lf1_up h z
  | .tuple ds, z => by rw [lf] at z ⊢; exact lf1_up h z
  | .dict kvs, z => by rw [lf] at z ⊢; exact z
  | .none, z => by rw [lf] <;> nofun
  | .bool _, z => by rw [lf] <;> nofun
theorem lf1_up {b c : Nat} (h : b ≤ c) : ∀ {ds : List PyData}, lf1 b ds = true → lf1 c ds = true
  | [], z => by rw [lf1]
  | d :: ds, z => by
    rw [lf1, Bool.and_eq_true] at z ⊢
    exact ⟨lf_up h z.1, lf1_up h z.2⟩
end
theorem Ls.up {b w b' w' : Nat} {d : PyData} (h : Ls b w d) (h1 : b ≤ b') (h2 : w ≤ w') : Ls b' w' d := ⟨lf_up h1 h.1, Nat.le_trans h.2 h2⟩
theorem Ls.mem {b w : Nat} {ds : List PyData} {d : PyData} (h : Ls b w (.tuple ds)) (m : d ∈ ds) : Ls b w d := by
  obtain ⟨h1, h2⟩ := h
  rw [lf] at h1
  rw [nd] at h2
  have := nd1_mem m
  exact ⟨lf1_mem h1 m, by omega⟩
theorem Ls.nd {b w : Nat} {ds : List PyData} (h : Ls b w (.tuple ds)) : nd1 ds + 1 ≤ w := by
  have := h.2
  rw [K44.nd] at this
  exact this
theorem ls_sub {b b' w w' : Nat} {ds es : List PyData} (h : Ls b w (.tuple ds)) (hb : b ≤ b') (hn : nd1 es + 1 ≤ w') (he : ∀ e ∈ es, e ∈ ds ∨ lf b' e = true) : Ls b' w' (.tuple es) := by
  refine ⟨?_, by rw [K44.nd]; exact hn⟩
  rw [lf]
  refine lf1_of fun e m => ?_
  rcases he e m with c | c
  · exact ((h.mem c).up hb (Nat.le_refl _)).1
  · exact c
theorem ls_subL {b b' w w' : Nat} {ds es : List PyData} (h : Ls b w (.tuple ds)) (hb : b ≤ b') (hn : nd1 es + 1 ≤ w') (he : ∀ e ∈ es, e ∈ ds ∨ lf b' e = true) : Ls b' w' (.list es) := by
  have z := ls_sub h hb hn he
  obtain ⟨z1, z2⟩ := z
  rw [lf] at z1
  rw [K44.nd] at z2
  exact ⟨by rw [lf]; exact z1, by rw [K44.nd]; exact z2⟩
theorem ls_int {b w : Nat} {i : Int} (h : i.natAbs ≤ b) (hw : 1 ≤ w) : Ls b w (.int i) := ⟨by rw [lf]; exact decide_eq_true h, by rw [K44.nd] <;> first | exact hw | nofun⟩
theorem ls_bl {b w : Nat} {x : Bool} (hw : 1 ≤ w) : Ls b w (.bool x) := ⟨by rw [lf] <;> nofun, by rw [K44.nd] <;> first | exact hw | nofun⟩
/-! what of this is told to the writing out -/
def B2 : Nat := 1000000000000000000000000000000000000000000000000000000000000
mutual
theorem lf_show : ∀ {d : PyData}, lf B2 d = true → PyData.showable d = true ∧ PyData.leavesShort 80 d = true
  | .int i, z => by
    rw [lf] at z
    have z := of_decide_eq_true z
    have hc : i.natAbs < 10 ^ 62 := Nat.lt_of_le_of_lt z (by decide)
    refine ⟨?_, ?_⟩
    · rw [PyData.showable]
      refine decide_eq_true ?_
      by_cases c : i.natAbs = 0
      · rw [c]; decide
      · exact Nat.lt_trans ((Nat.log2_lt c).mpr (Nat.lt_of_lt_of_le hc (by decide : 10 ^ 62 ≤ 2 ^ 210))) (by decide)
    · have : (PyData.shown (.int i)).length ≤ 80 := by
        show (Str.ofString (toString i)).length ≤ 80
        rw [PySem.ofString_length]
        exact Nat.le_trans (int_text_length_le10 (k := 62) (by decide) hc) (by decide)
      rw [PyData.leavesShort, decide_eq_true this]
  | .str x, z => by
    rw [lf] at z
    exact ⟨by rw [PyData.showable], by rw [PyData.leavesShort]; exact z⟩
  | .list ds, z => by
    rw [lf] at z
    have := lf1_show z
    exact ⟨by rw [PyData.showable]; exact this.1, by rw [PyData.leavesShort]; exact this.2⟩
  | .tuple ds, z => by
    rw [lf] at z
    have := lf1_show z
    exact ⟨by rw [PyData.showable]; exact this.1, by rw [PyData.leavesShort]; exact this.2⟩
  | .dict kvs, z => by
    rw [lf] at z
    cases kvs with
    | nil => exact ⟨rfl, rfl⟩
    | cons _ _ => cases z
  | .none, _ => ⟨rfl, rfl⟩
  | .bool _, _ => ⟨rfl, rfl⟩
theorem lf1_show : ∀ {ds : List PyData}, lf1 B2 ds = true → PyData.showableAll ds = true ∧ PyData.leavesShortAll 80 ds = true
  | [], _ => ⟨rfl, rfl⟩
  | d :: ds, z => by
    rw [lf1, Bool.and_eq_true] at z
    have h1 := lf_show z.1
    have h2 := lf1_show z.2
    exact ⟨by rw [PyData.showableAll, h1.1, h2.1]; rfl, by rw [PyData.leavesShortAll, h1.2, h2.2]; rfl⟩
end
mutual
theorem bulk_nd {b : Nat} : ∀ {d : PyData}, lf b d = true → PyData.bulk d + 1 ≤ nd d
  | .int i, _ => by rw [PyData.bulk, nd] <;> first | omega | nofun
  | .str x, _ => by rw [PyData.bulk, nd] <;> first | omega | nofun
  | .list ds, z => by
    rw [lf] at z
    have := bulk_nd1 z
    rw [PyData.bulk, nd]; omega
  | .tuple ds, z => by
    rw [lf] at z
    have := bulk_nd1 z
    rw [PyData.bulk, nd]; omega
  | .dict kvs, z => by
    rw [lf] at z
    cases kvs with
    | nil => exact Nat.le_refl _
    | cons _ _ => cases z
  | .none, _ => Nat.le_refl _
  | .bool _, _ => Nat.le_refl _
theorem bulk_nd1 {b : Nat} : ∀ {ds : List PyData}, lf1 b ds = true → PyData.bulkAll ds ≤ nd1 ds
  | [], _ => Nat.le_refl _
  | d :: ds, z => by
    rw [lf1, Bool.and_eq_true] at z
    have h1 := bulk_nd z.1
    have h2 := bulk_nd1 z.2
    rw [PyData.bulkAll, nd1]; omega
end
mutual
theorem depth_dep {b : Nat} : ∀ {d : PyData}, lf b d = true → PyData.depth d ≤ dep d + 1
  | .int i, _ => by rw [PyData.depth]; omega
  | .str x, _ => by rw [PyData.depth]; omega
  | .list ds, z => by
    rw [lf] at z
    have := depth_dep1 z
    rw [PyData.depth, dep]; omega
  | .tuple ds, z => by
    rw [lf] at z
    have := depth_dep1 z
    rw [PyData.depth, dep]; omega
  | .dict kvs, z => by
    rw [lf] at z
    cases kvs with
    | nil => exact Nat.le_add_left _ _
    | cons _ _ => cases z
  | .none, _ => Nat.zero_le _
  | .bool _, _ => Nat.zero_le _
theorem depth_dep1 {b : Nat} : ∀ {ds : List PyData}, lf1 b ds = true → PyData.depthAll ds ≤ dep1 ds + 1
  | [], _ => Nat.zero_le _
  | d :: ds, z => by
    rw [lf1, Bool.and_eq_true] at z
    have h1 := depth_dep z.1
    have h2 := depth_dep1 z.2
    rw [PyData.depthAll, dep1]; omega
end
theorem shown_fit {w : Nat} {d : PyData} (h : Ls B2 w d) (hw : w ≤ 100000) : d.shown.length ≤ sizeLine := by
  have h1 := PyData.shown_le_bulk 80 (by decide) d (lf_show h.1).2
  have h2 := bulk_nd h.1
  have h3 := h.2
  refine Nat.le_trans h1 (Nat.le_trans ?_ (show 16777216 ≤ sizeLine by decide))
  omega
end K44

set_option Elab.async false
set_option linter.all false
set_option maxRecDepth 100000
set_option maxHeartbeats 8000000
local macro_rules | `(tactic| walk_at "rd") => `(tactic| dsimp only [Evl.tCut, L2.tSeq, L2.tNext, L2.tRet, L2.tRetN, L2.tAsg, L2.gName, L2.tIfS, L2.tDrop, L2.tCons, L2.tNil, L2.tC, L2.tVar, L2.tCB, L2.tAndV, L2.tOrV, L2.tNotV, L2.tB, L2.tTest, L2.tOp, L2.tUn, L2.tNot, L2.tAnd, L2.tOr, L2.tIf, L2.tCall, L2.tTup, L2.tLst, L2.tNotT, L2.tYes, L2.gTup, L2.gCons, L2.gNil, L2.gSub, L2.tBM0, L2.tBM, L2.tWhile, L2.tFor, L2.iRng1, L2.iRng2, L2.tAugS, Tw.iEnumT, L2.tCKw, L2.tAug, L2.ipI, RT.iRevA, L2.tPar, L2.tPar3, L2.tSl, L2.tNoPart, L2.tPart, Tw.tRevT, Tw.tFput])
namespace K44
open PySem PySem.Spec PyProof.Rows L2 Tw
/-! what the law says of sayings -/
theorem say_d : ∀ {s : Say}, s.ok → say s.d = some s
  | .tt, _ => by rw [Say.d, say_str, bw_tt]; rfl
  | .ff, _ => by rw [Say.d, say_str, bw_ff]; rfl
  | .nn s, h => by rw [Say.d, say_str, bw_nn, says1, say_d (s := s) h]; rfl
  | .bo true s t, h => by rw [Say.d, if_pos rfl, say_str, bw_bo, says2, say_d (s := s) h.1, say_d (s := t) h.2]; rfl
  | .bo false s t, h => by rw [Say.d, if_neg Bool.false_ne_true, say_str, bw_ei, says2, say_d (s := s) h.1, say_d (s := t) h.2]; rfl
  | .qu true x s, h => by
    rw [Say.d, if_pos rfl, say_str, bw_al, says2, say_d (s := s) h]
    cases x <;> rfl
  | .qu false x s, h => by
    rw [Say.d, if_neg Bool.false_ne_true, say_str, bw_so, says2, say_d (s := s) h]
    cases x <;> rfl
  | .re w p, h => by
    rw [Say.d, say_str, bw_re h.1]
    show (if smallB p = true then some (Say.re w p) else none) = _
    rw [if_pos h.2]
theorem depth_dep_le : ∀ s : Say, s.depth ≤ dep s.d
  | .tt => by decide
  | .ff => by decide
  | .nn s => by
    have := depth_dep_le s
    rw [Say.d, dep, dep1, dep1, dep1, depth_nn]; omega
  | .bo b s t => by
    have := depth_dep_le s
    have := depth_dep_le t
    rw [Say.d, dep, dep1, dep1, dep1, dep1, depth_bo]; omega
  | .qu al x s => by
    have := depth_dep_le s
    rw [Say.d, dep, dep1, dep1, dep1, dep1, depth_qu]; omega
  | .re w p => by
    rw [Say.d, dep]
    show 1 ≤ _
    omega
theorem polys_nd : ∀ s : Say, s.polys.length ≤ nd s.d
  | .tt => Nat.zero_le _
  | .ff => Nat.zero_le _
  | .nn s => by
    have := polys_nd s
    show s.polys.length ≤ _
    rw [Say.d, nd, nd1, nd1, nd1]; omega
  | .bo b s t => by
    have := polys_nd s
    have := polys_nd t
    have := un_len s.polys t.polys
    show (un s.polys t.polys).length ≤ _
    rw [Say.d, nd, nd1, nd1, nd1, nd1]; omega
  | .qu al x s => by
    have := polys_nd s
    show s.polys.length ≤ _
    rw [Say.d, nd, nd1, nd1, nd1, nd1]; omega
  | .re w p => by
    show 1 ≤ _
    exact nd_pos _
theorem lay1_of : ∀ {ds : List PyData}, (∀ d ∈ ds, d.canLay0 = true) → PyData.canLayAll0 ds = true
  | [], _ => rfl
  | d :: ds, h => by rw [PyData.canLayAll0, h d (by simp), lay1_of fun e m => h e (by simp [m])]; rfl
theorem dpt1_le {n : Nat} : ∀ {ds : List PyData}, (∀ d ∈ ds, PyData.depth d ≤ n) → PyData.depthAll ds ≤ n
  | [], _ => Nat.zero_le _
  | d :: ds, h => by
    rw [PyData.depthAll]
    exact Nat.max_le.mpr ⟨h d (by simp), dpt1_le fun e he => h e (by simp [he])⟩
theorem whole_lay {d : PyData} (h : wholeB d = true) : d.canLay0 = true ∧ PyData.depth d ≤ 0 := by
  cases d <;> first | exact ⟨rfl, Nat.le_refl _⟩ | (simp [wholeB, isIntD, isBoolD] at h)
theorem row_lay {d : PyData} (h : rowB d = true) : d.canLay0 = true ∧ PyData.depth d ≤ 1 := by
  cases d with
  | tuple ds =>
    unfold rowB at h
    rw [Bool.and_eq_true] at h
    refine ⟨by rw [PyData.canLay0]; exact lay1_of fun e m => (whole_lay (all_mem h.1 m)).1, ?_⟩
    rw [PyData.depth]
    exact Nat.succ_le_succ (dpt1_le fun e m => (whole_lay (all_mem h.1 m)).2)
  | _ => cases h
theorem poly_lay {d : PyData} (h : polyB d = true) : d.canLay0 = true ∧ PyData.depth d ≤ 2 := by
  cases d with
  | tuple ds =>
    unfold polyB at h
    rw [Bool.and_eq_true] at h
    refine ⟨by rw [PyData.canLay0]; exact lay1_of fun e m => (row_lay (all_mem h.1 m)).1, ?_⟩
    rw [PyData.depth]
    exact Nat.succ_le_succ (dpt1_le fun e m => (row_lay (all_mem h.1 m)).2)
  | _ => cases h
theorem small_poly {d : PyData} (h : smallB d = true) : polyB d = true := by
  unfold smallB at h
  rw [Bool.and_eq_true, Bool.and_eq_true] at h
  exact h.1.1
theorem small_shaped {d : PyData} (h : smallB d = true) : SeqAt.shaped d = true := by
  have := poly_lay (small_poly h)
  unfold SeqAt.shaped
  rw [this.1, decide_eq_true (by omega)]
  rfl
theorem smalls_lay {ds : List PyData} (h : ∀ d ∈ ds, smallB d = true) : (PyData.list ds).canLay0 = true := by
  rw [PyData.canLay0]
  exact lay1_of fun e m => (poly_lay (small_poly (h e m))).1
theorem smalls_shaped {ds : List PyData} (h : ∀ d ∈ ds, smallB d = true) : SeqAt.shaped (.list ds) = true := by
  unfold SeqAt.shaped
  rw [smalls_lay h]
  have : PyData.depth (.list ds) ≤ 3 := by
    rw [PyData.depth]
    exact Nat.succ_le_succ (dpt1_le fun e m => (poly_lay (small_poly (h e m))).2)
  rw [decide_eq_true (by omega)]
  rfl
theorem da_lst {a : Addr} {H : Hp} {v : V} {ds : List PyData} (h : Da a H v (.list ds)) : ∃ p xs, v = .ref p ∧ p ≠ a ∧ H p = some (.lst xs) ∧ DaAll a H xs ds := by
  cases h with
  | lst n e r => exact ⟨_, _, rfl, n, e, r⟩
section
variable {K : PySem.W.Frag} {a : Addr} {wi : TI} {j : Nat} {tt : TT} {te : TE} {vs : List Nat} {σ : L2.St} {H : Hp} {Q : VK} {ds : List PyData}
/-- [d for d in a list of data if f(d)] -/
theorem lc_filtD (f : PyData → Bool) (wa : H a ≠ none)
    (hi : ∀ R : It → Hp → Prop, (∀ p xs H1, Same H H1 → H1 p = some (.lst xs) → DaAll a H1 xs ds → R (Itl K p) H1) → wi σ H R)
    (hl : ds.length ≤ 100000) (hw : ∀ x, wipe ((wipe σ vs).set j (some x)) vs = wipe σ vs)
    (ht : ∀ x d H1, d ∈ ds → Same H H1 → Da a H1 x d → ∀ R : Bool → Hp → Prop, (∀ H2, Same H1 H2 → R (f d) H2) → tt ((wipe σ vs).set j (some x)) H1 R)
    (he : ∀ x H1 (R : VK), R x H1 → te ((wipe σ vs).set j (some x)) H1 R)
    (q : ∀ D H', Same H H' → Da a H' (.ref D) (.list (ds.filter f)) → Q (.ref D) H') : tLc wi (gName j) tt te vs σ H Q := by
  refine hi _ fun p xs H1 s1 hp hx D hD => ?_
  refine lc_list (xs := xs) (fun m H' => Same H1 H' ∧ ∃ zs, H' D = some (.lst zs) ∧ DaAll a H1 zs ((ds.take m).filter f)) ⟨same_new hD, [], upd_same, .nil⟩ (fun m H' _ h => SqL.of (h.1 _ _ hp)) (fun m x H2 hxm h => ?_) (fun H' h => ?_)
  · obtain ⟨h1, zs, h2, h3⟩ := h
    obtain ⟨d, e1, e2⟩ := hx.get hxm
    have hm : m < ds.length := (List.getElem?_eq_some_iff.mp e1).1
    have et : (ds.take (m + 1)).filter f = (ds.take m).filter f ++ (if f d then [d] else []) := by
      rw [List.take_add_one, e1, List.filter_append]
      congr 1
      cases hf : f d <;> simp [hf]
    refine ⟨hw _, ht x d H2 (List.mem_of_getElem? e1) (s1.trans h1) (e2.same h1) _ fun H3 s3 => ?_⟩
    cases hf : f d with
    | true =>
      refine iteT (he x H3 _ ⟨_, s3 _ _ h2, ?_, same_upd (h1.trans s3) hD, _, upd_same, ?_⟩)
      · have := List.length_filter_le f (ds.take m)
        rw [List.length_take] at this
        rw [h3.len]
        exact lt_line (by omega)
      · rw [et, hf, if_pos rfl]
        exact h3.append (.cons e2 .nil)
    | false =>
      refine iteF ⟨h1.trans s3, zs, s3 _ _ h2, ?_⟩
      rw [et, hf, if_neg Bool.false_ne_true, List.append_nil]
      exact h3
  · obtain ⟨h1, zs, h2, h3⟩ := h
    rw [hx.len, List.take_length] at h3
    exact q D H' (s1.trans h1) (.lst (new_ne (same_some s1 wa) hD) h2 (h3.same h1))
/-- [f(d) for d in a tuple of data] -/
theorem lc_mapI (f : PyData → V)
    (hi : ∀ R : It → Hp → Prop, (∀ p xs H1, Same H H1 → H1 p = some (.tup xs) → DaAll a H1 xs ds → R (Itt K p) H1) → wi σ H R)
    (hl : ds.length < 100000) (hw : ∀ x, wipe ((wipe σ vs).set j (some x)) vs = wipe σ vs)
    (he : ∀ x d H1, d ∈ ds → Same H H1 → Da a H1 x d → ∀ R : VK, (∀ H2, Same H1 H2 → R (f d) H2) → te ((wipe σ vs).set j (some x)) H1 R)
    (q : ∀ D H', Same H H' → H' D = some (.lst (ds.map f)) → Q (.ref D) H') : tLc wi (gName j) tYes te vs σ H Q := by
  refine hi _ fun p xs H0 s0 hp hx D hD => ?_
  refine lc_tup (xs := xs) (fun m H' => Same H0 H' ∧ H' D = some (.lst ((ds.take m).map f))) ⟨same_new hD, upd_same⟩ (fun m H' _ h => SqT.of (h.1 _ _ hp)) (fun m x H1 hxm h => ?_) (fun H' h => ?_)
  · obtain ⟨h1, h2⟩ := h
    obtain ⟨d, e1, e2⟩ := hx.get hxm
    have hm : m < xs.length := (List.getElem?_eq_some_iff.mp hxm).1
    have hxl := hx.len
    refine ⟨hw x, ?_⟩
    unfold tYes
    simp only [if_true]
    refine he x d H1 (List.mem_of_getElem? e1) (s0.trans h1) (e2.same h1) _ fun H2 s2 => ⟨(ds.take m).map f, s2 _ _ h2, ?_, same_upd (h1.trans s2) hD, ?_⟩
    · rw [List.length_map, List.length_take]; exact lt_line (by omega)
    · rw [upd_same, Tw.take_map f e1]
  · obtain ⟨h1, h2⟩ := h
    rw [hx.len, List.take_length] at h2
    exact q D H' (s0.trans h1) h2
end
theorem for_tup {K : PySem.W.Frag} {a : Addr} {xs : List V} {B : (L2.St → Hp → Prop) → V → L2.St → Hp → Prop} {nx : L2.St → Hp → Prop} {σ : L2.St} {H : Hp} (Pv : Nat → L2.St → Hp → Prop) (h0 : Pv 0 σ H)
    (hl : ∀ i σ' H', i ≤ xs.length → Pv i σ' H' → SqT K H' a xs)
    (hs : ∀ (i : Nat) x σ' H', xs[i]? = some x → Pv i σ' H' → B (Pv (i + 1)) x σ' H') (hd : ∀ σ' H', Pv xs.length σ' H' → nx σ' H') :
    ∃ W : Nat → Nat → L2.St → Hp → Prop, (∃ m, W 0 m σ H) ∧ ∀ i m σ H, W i m σ H →
      ((Itt K a).stop i H ∧ nx σ H) ∨ ((Itt K a).go i H ∧ ∃ N : L2.St → Hp → Prop, (∀ σ' H', N σ' H' → ∃ m', m' < m ∧ W (i + 1) m' σ' H') ∧ ∀ x H', (Itt K a).yld i H x H' → B N x σ H') := by
  refine ⟨fun i m σ H => m = xs.length - i ∧ i ≤ xs.length ∧ Pv i σ H, ⟨xs.length, by simp, Nat.zero_le _, h0⟩, ?_⟩
  rintro i m σ' H' ⟨rfl, hi, p⟩
  have ql := hl i σ' H' hi p
  by_cases c : i < xs.length
  · refine Or.inr ⟨⟨xs, xs[i], ql, by simp [c]⟩, Pv (i + 1), fun σ2 H2 p2 => ⟨xs.length - (i + 1), by omega, rfl, c, p2⟩, fun x H2 y => ?_⟩
    obtain ⟨e1, e2⟩ := y
    subst e1
    exact hs i x σ' _ (e2 xs ql) p
  · have e : i = xs.length := by omega
    subst e
    exact Or.inl ⟨⟨xs, ql, Nat.le_refl _⟩, hd σ' H' p⟩
end K44

set_option Elab.async false
set_option linter.all false
set_option maxRecDepth 100000
set_option maxHeartbeats 8000000
local macro_rules | `(tactic| walk_at "rd") => `(tactic| dsimp only [Evl.tCut, L2.tSeq, L2.tNext, L2.tRet, L2.tRetN, L2.tAsg, L2.gName, L2.tIfS, L2.tDrop, L2.tCons, L2.tNil, L2.tC, L2.tVar, L2.tCB, L2.tAndV, L2.tOrV, L2.tNotV, L2.tB, L2.tTest, L2.tOp, L2.tUn, L2.tNot, L2.tAnd, L2.tOr, L2.tIf, L2.tCall, L2.tTup, L2.tLst, L2.tNotT, L2.tYes, L2.gTup, L2.gCons, L2.gNil, L2.gSub, L2.tBM0, L2.tBM, L2.tWhile, L2.tFor, L2.iRng1, L2.iRng2, L2.tAugS, Tw.iEnumT, L2.tCKw, L2.tAug, L2.ipI, RT.iRevA, L2.tPar, L2.tPar3, L2.tSl, L2.tNoPart, L2.tPart, Tw.tRevT, Tw.tFput])
namespace K44
open PySem PySem.Spec PyProof.Rows L2 Tw
/-- an int from 0 on below n; the well is turned -/
def spDraw : Sp := fun vs H Q _ => ∃ a n, vs = [.ref a, .int n] ∧ We a H ∧ 0 < n ∧ n < 1073741824 ∧ ∀ d H', 0 ≤ d → d < n → Kp a H H' → We a H' → Q (.int d) H'
/-- one of a tuple's items -/
def spPick : Sp := fun vs H Q _ => ∃ a p xs, vs = [.ref a, .ref p] ∧ We a H ∧ p ≠ a ∧ (H p = some (.tup xs) ∨ H p = some (.lst xs)) ∧ xs ≠ [] ∧ xs.length < 1000 ∧ ∀ (i : Nat) x H', xs[i]? = some x → Kp a H H' → We a H' → Q x H'
theorem kp_well {a : Addr} {H H' : Hp} {o : HO} (h : Kp a H H') : Kp a H (upd H' a o) := fun b u n e => by
  rw [upd_ne n]; exact h b u n e
section
variable {P : Program} {w : World} {K : PySem.W.Frag} {mg : Str → Option Value} {base : Heap}
theorem scDraw : FnScope ["_law_well_here", "_law_many", "_law_figure", "_law_seed"] ["_law_well_here", "_law_many"] (defScope sDraw) := ⟨rfl, rfl, rfl, by decide +kernel, rfl, by decide +kernel, by decide +kernel⟩
theorem ok_draw (D : Def K mg "_law_draw" sDraw ["_law_well_here", "_law_many"]) (nb : Nb mg) : Cal P w K mg base "_law_draw" 1 ["_law_well_here", "_law_many"] spDraw := by
  refine D.ok scDraw (fun vs H Q E h => ?_) (fun f cdv A out s H vs Q E hr h => ?_)
  · obtain ⟨a, n, rfl, _⟩ := h; rfl
  obtain ⟨a, n, rfl, ⟨x, y, z, hw⟩, n0, n1, q⟩ := h
  refine ⟨_, pss_cons (ps_if (pt_cmpR op_gt (pe_ix ix_list (pv 0) pe_int (fun _ _ => rfl)) pe_int (nomark _))
      (pss_cons (ps_asg (pe_callB (id := "divmod") call_divmod (by rfl) nb.dvm (by decide +kernel) (pa_cons (pe_ix ix_list (pv 0) pe_int (fun _ _ => rfl)) (pa_cons (pv 1) pa_nil)))
          (pg_tup rfl (pgs_cons (pg_sub (pv 0) pe_int set_list) (pgs_cons (pg_name (i := 2) scDraw.nd rfl (Or.inl rfl)) pgs_nil))))
        (pss_one (ps_ret (pv 2)))) pss_nil)
    (pss_cons (ps_asg (pe_op op_add (pe_ix ix_list (pv 0) pe_int (fun _ _ => rfl)) pe_int) (pg_sub (pv 0) pe_int set_list))
    (pss_cons (ps_set (i := 3) scDraw.nd rfl (Or.inl rfl) (pe_op op_mod (pe_callTy (T := "int") call_int1 (by rfl) nb.int (by decide +kernel)
        (pa_cons (pe_op op_add (pe_ix ix_list (pv 0) pe_int (fun _ _ => rfl)) (pe_op op_mul pe_int (pe_ix ix_list (pv 0) pe_int (fun _ _ => rfl)))) pa_nil)) pe_int))
    (pss_cons (ps_asg (pe_op op_mod (pe_callTy (T := "int") call_int1 (by rfl) nb.int (by decide +kernel)
        (pa_cons (pe_op op_add (pe_op op_mul (pv 3) (pe_op op_add (pe_op op_mod (pe_callTy (T := "int") call_int1 (by rfl) nb.int (by decide +kernel) (pa_cons (pv 3) pa_nil)) pe_int) pe_int))
          (pe_op op_mul pe_int (pe_ix ix_list (pv 0) pe_int (fun _ _ => rfl)))) pa_nil)) pe_int) (pg_sub (pv 0) pe_int set_list))
    (pss_one (ps_ret (pe_op op_mod (pe_callTy (T := "int") call_int1 (by rfl) nb.int (by decide +kernel) (pa_cons (pe_op op_fdiv (pe_ix ix_list (pv 0) pe_int (fun _ _ => rfl)) pe_int) pa_nil)) (pv 1))))))), ?_⟩
  walk_at "rd"
  refine ⟨.ref a, rfl, a, _, 0, .int x, rfl, rfl, SqL.of hw, rfl, x, 0, rfl, rfl, _, rfl, ite2 (fun c => ?_) (fun c => ?_)⟩
  · refine ⟨.ref a, rfl, a, _, 0, .int x, rfl, rfl, SqL.of hw, rfl, .int n, rfl, x, n, rfl, ⟨n0, n1⟩, fun t nt => ?_⟩
    have ta : t ≠ a := (show We a H from ⟨x, y, z, hw⟩).ne nt
    have h1 : upd H t (.tup [.int (x / n), .int (x % n)]) a = some (.lst [.int x, .int y, .int z]) := by rw [upd_ne ta.symm]; exact hw
    refine ⟨t, _, rfl, SqT.of upd_same, rfl, .int (x / n), _, rfl, .ref a, rfl, a, _, 0, 0, rfl, rfl, h1, rfl, .int (x % n), _, rfl, ⟨rfl, .int (x % n), rfl, ?_⟩⟩
    refine q _ _ (Int.emod_nonneg _ (by omega)) (Int.emod_lt_of_pos _ n0) (kp_well (kp_new nt)) ⟨x / n, y, z, upd_same⟩
  · refine ⟨.ref a, rfl, a, _, 2, .int z, rfl, rfl, SqL.of hw, rfl, z, 1, rfl, rfl, .ref a, rfl, a, _, 2, 2, rfl, rfl, hw, rfl, ?_⟩
    generalize hH1 : upd H a _ = H1
    have w1 : H1 a = some (.lst [.int x, .int y, .int (z + 1)]) := by rw [← hH1]; exact upd_same
    have k1 : Kp a H H1 := by rw [← hH1]; exact kp_well (Kp.refl a H)
    refine ⟨.ref a, rfl, a, _, 1, .int y, rfl, rfl, SqL.of w1, rfl, .ref a, rfl, a, _, 2, .int (z + 1), rfl, rfl, SqL.of w1, rfl, _, _, rfl, rfl, .inl ⟨by decide, by decide⟩, _, _, rfl, rfl, .inl ⟨_, rfl, _, _, rfl, rfl, (by show (0 : Int) < _; decide), ?_⟩⟩
    walk_at "rd"
    generalize hs : (_ : Int) % 2147483563 = sd
    have s0 : 0 ≤ sd := by rw [← hs]; exact Int.emod_nonneg _ (by decide)
    have s1 : sd < 2147483563 := by rw [← hs]; exact Int.emod_lt_of_pos _ (by decide)
    refine ⟨.int sd, rfl, .int sd, rfl, .inl ⟨sd, rfl, _, _, rfl, rfl, (by show (0 : Int) < _; decide), _, _, rfl, rfl, _, _, rfl, rfl, .inl ⟨by omega, by omega⟩, .ref a, rfl, a, _, 2, .int (z + 1), rfl, rfl, SqL.of w1, rfl, _, _, rfl, rfl, .inl ⟨by decide, by decide⟩, _, _, rfl, rfl, .inl ⟨_, rfl, _, _, rfl, rfl, (by show (0 : Int) < _; decide), ?_⟩⟩⟩
    walk_at "rd"
    refine ⟨.ref a, rfl, a, _, 1, 1, rfl, rfl, w1, rfl, ?_⟩
    generalize hy : (_ : Int) % 2147483563 = y2
    generalize hH2 : upd H1 a _ = H2
    have w2 : H2 a = some (.lst [.int x, .int y2, .int (z + 1)]) := by rw [← hH2]; exact upd_same
    have k2 : Kp a H H2 := by rw [← hH2]; exact kp_well k1
    refine ⟨.ref a, rfl, a, _, 1, .int y2, rfl, rfl, SqL.of w2, rfl, _, _, rfl, rfl, ⟨by decide, by decide⟩, .inl ⟨_, rfl, .int n, rfl, _, _, rfl, rfl, n0, ?_⟩⟩
    exact q _ _ (Int.emod_nonneg _ (by omega)) (Int.emod_lt_of_pos _ n0) k2 ⟨x, y2, z + 1, w2⟩

theorem scPick : FnScope ["_law_well_here", "_law_some"] ["_law_well_here", "_law_some"] (defScope sPick) := ⟨rfl, rfl, rfl, by decide +kernel, rfl, by decide +kernel, by decide +kernel⟩
theorem ok_pick (D : Def K mg "_law_pick" sPick ["_law_well_here", "_law_some"]) (nb : Nb mg) (c1 : Cal P w K mg base "_law_draw" 1 ["_law_well_here", "_law_many"] spDraw) : Cal P w K mg base "_law_pick" 2 ["_law_well_here", "_law_some"] spPick := by
  refine D.ok scPick (fun vs H Q E h => ?_) (fun f cdv A out s H vs Q E hr h => ?_)
  · obtain ⟨a, p, xs, rfl, _⟩ := h; rfl
  obtain ⟨a, p, xs, rfl, hw, np, hp, ne, hl, q⟩ := h
  refine ⟨_, pss_one (ps_ret (pe_ix (r := rIx K) ix_seq (pv 1) (pe_cal c1 hr (Nat.le_refl 1) (by rfl) (pa_cons (pv 0) (pa_cons (pe_callB (id := "len") call_len_seq (by rfl) nb.len PySem.boot_len (pa_cons (pv 1) pa_nil)) pa_nil))) (fun _ _ => rfl))), ?_⟩
  walk_at "rd"
  have l0 : 0 < xs.length := List.length_pos_iff.mpr ne
  have hsq : SqL K H p xs ∨ SqT K H p xs := hp.elim (fun h => .inr (SqT.of h)) fun h => .inl (SqL.of h)
  refine ⟨.ref p, rfl, .ref a, rfl, .ref p, rfl, p, xs, rfl, hsq, a, _, rfl, hw, by omega, by omega, fun d H1 d0 d1 k1 w1 => ?_⟩
  obtain ⟨m, rfl⟩ := Int.eq_ofNat_of_zero_le d0
  have hm : m < xs.length := by omega
  have qq := q m _ H1 (List.getElem?_eq_getElem hm) k1 w1
  rcases hp with hp | hp
  · exact .inr (.inl ⟨p, xs, _, xs[m], rfl, rfl, SqT.of (k1 _ _ np hp), atI_nat (List.getElem?_eq_getElem hm), qq⟩)
  · exact .inl ⟨p, xs, _, xs[m], rfl, rfl, SqL.of (k1 _ _ np hp), atI_nat (List.getElem?_eq_getElem hm), qq⟩
end
/-- a new well -/
def spWell (K : PySem.W.Frag) : Sp := fun vs H Q _ => ∃ (p : Addr) (ns : List Int) (k : Int), vs = [.ref p, .int k] ∧ SqL K H p (ns.map V.int) ∧ ns.length ≤ 63 ∧ 0 ≤ k ∧ ∀ a H', Same H H' → H a = none → We a H' → Q (.ref a) H'
def spLaw (K : PySem.W.Frag) : Sp := fun vs H Q _ => ∃ (p : Addr) (ns : List Int), vs = [.ref p] ∧ SqL K H p (ns.map V.int) ∧ ns.length ≤ 63 ∧ ∀ H', Q (.bl true) H'
section
variable {P : Program} {w : World} {K : PySem.W.Frag} {mg : Str → Option Value} {base : Heap}
theorem scWell : FnScope ["_law_script", "_law_at", "_law_mixed", "_law_cell", "_law_own"] ["_law_script", "_law_at"] (defScope sWell) := ⟨rfl, rfl, rfl, by decide +kernel, rfl, by decide +kernel, by decide +kernel⟩
theorem ok_well (D : Def K mg "_law_well" sWell ["_law_script", "_law_at"]) (nb : Nb mg) : Cal P w K mg base "_law_well" 1 ["_law_script", "_law_at"] (spWell K) := by
  refine D.ok scWell (fun vs H Q E h => ?_) (fun f cdv A out s H vs Q E hr h => ?_)
  · obtain ⟨p, ns, k, rfl, _⟩ := h; rfl
  obtain ⟨p, ns, k, rfl, hp, hl, k0, q⟩ := h
  refine ⟨_, pss_cons (ps_set (i := 2) scWell.nd rfl (Or.inl rfl) (pe_op op_add pe_int (pe_op op_mul pe_int (pv 1))))
    (pss_cons (ps_for PassesOwn.never rfl (pi_list (pe_slice sl_list (pv 0) po_none (po_some pe_int))) (pg_name (i := 3) scWell.nd rfl (Or.inl rfl))
        (pss_one (ps_set (i := 2) scWell.nd rfl (Or.inl rfl) (pe_op op_mod (pe_callTy (T := "int") call_int1 (by rfl) nb.int (by decide +kernel)
          (pa_cons (pe_op op_add (pe_op op_add (pe_op op_mul (pv 2) pe_int) (pe_op op_mod (pe_callTy (T := "int") call_int1 (by rfl) nb.int (by decide +kernel) (pa_cons (pv 3) pa_nil)) pe_int)) pe_int) pa_nil)) pe_int))))
    (Evl.pss_cut (ps_set (i := 4) scWell.nd rfl (Or.inl rfl) (pe_ifExp (pt_cmpR op_lt (pv 1) (pe_callB (id := "len") call_len_seq (by rfl) nb.len PySem.boot_len (pa_cons (pv 0) pa_nil)) (nomark _))
        (pe_callTy (T := "int") call_int1 (by rfl) nb.int (by decide +kernel) (pa_cons (pe_ix ix_list (pv 0) (pv 1) (fun _ _ => rfl)) pa_nil)) pe_int))
    (pss_cons (ps_set (i := 2) scWell.nd rfl (Or.inl rfl) (pe_op op_mod (pe_callTy (T := "int") call_int1 (by rfl) nb.int (by decide +kernel)
        (pa_cons (pe_op op_add (pe_op op_add (pe_op op_mul (pv 2) pe_int) (pe_op op_mul (pe_op op_mod (pe_callTy (T := "int") call_int1 (by rfl) nb.int (by decide +kernel) (pa_cons (pv 4) pa_nil)) pe_int) pe_int)) pe_int) pa_nil)) pe_int))
    (pss_one (ps_ret (pe_lst (pa_cons (pe_ifExp (PW.pt (pw_or (pt_cmpR op_lt (pv 4) pe_int (nomark _)) (pw_or1 (pt_cmpR op_ge (pv 4) (pe_op op_pow pe_int pe_int) (nomark _)))))
        (pe_callB (id := "abs") call_abs (by rfl) nb.abs (by decide +kernel) (pa_cons (pv 4) pa_nil)) pe_int) (pa_cons (pv 2) (pa_cons pe_int pa_nil))))))))), ?_⟩
  walk_at "rd"
  refine ⟨.int k, rfl, _, _, rfl, rfl, .inl ⟨by decide, by decide⟩, _, _, rfl, rfl, .ref p, rfl, 9, rfl, p, _, rfl, hp, fun c nc => ?_⟩
  have s1 := same_new (o := .lst (L2.cutV (ns.map V.int) none (some 9))) nc
  have hc : upd H c (.lst (L2.cutV (ns.map V.int) none (some 9))) c = some (.lst (L2.cutV (ns.map V.int) none (some 9))) := upd_same
  generalize upd H c _ = H1 at s1 hc ⊢
  have hp1 : SqL K H1 p (ns.map V.int) := s1.seq hp
  refine ⟨c, rfl, ⟨_, SqL.of hc⟩, for_lst (xs := L2.cutV (ns.map V.int) none (some 9)) (fun i σ H' => ∃ (mx : Int) (x3 : Option V), σ = [some (.ref p), some (.int k), some (.int mx), x3, none] ∧ H' = H1) ⟨_, none, rfl, rfl⟩ (fun i σ' H' _ h => ?_) (fun i x σ' H' hx h => ?_) (fun σ' H' h => ?_)⟩
  · obtain ⟨mx, x3, rfl, rfl⟩ := h; exact SqL.of hc
  · obtain ⟨mx, x3, rfl, rfl⟩ := h
    obtain ⟨n, _, rfl⟩ : ∃ n, n ∈ ns ∧ V.int n = x := List.mem_map.mp (List.mem_of_mem_drop (List.mem_of_mem_take (List.mem_of_getElem? hx)))
    refine ⟨.int mx, rfl, _, _, rfl, rfl, .inr ⟨by decide, by decide⟩, .int n, rfl, .inl ⟨n, rfl, _, _, rfl, rfl, (by show (0 : Int) < _; decide), _, _, rfl, rfl, _, _, rfl, rfl, .inl ⟨_, rfl, _, _, rfl, rfl, (by show (0 : Int) < _; decide), ?_⟩⟩⟩
    exact ⟨_, some (.int n), rfl, rfl⟩
  · obtain ⟨mx, x3, rfl, rfl⟩ := h
    refine ⟨fun σ2 H2 => ∃ o : Int, σ2 = [some (.ref p), some (.int k), some (.int mx), x3, some (.int o)] ∧ H2 = H', ⟨.int k, rfl, .ref p, rfl, p, _, rfl, .inl hp1, _, _, rfl, rfl, _, rfl, ite2 (fun c1 => ?_) (fun c1 => ⟨0, rfl, rfl⟩)⟩, ?_⟩
    · have c1 := of_decide_eq_true c1
      rw [List.length_map] at c1
      obtain ⟨j, rfl⟩ := Int.eq_ofNat_of_zero_le k0
      have hj : j < ns.length := by omega
      refine ⟨.ref p, rfl, .int j, rfl, p, _, j, .int ns[j], rfl, rfl, hp1, atI_nat (by rw [List.getElem?_map, List.getElem?_eq_getElem hj]; rfl), .inl ⟨_, rfl, ns[j], rfl, rfl⟩⟩
    · rintro σ2 H2 ⟨o, rfl, rfl⟩
      refine ⟨.int mx, rfl, _, _, rfl, rfl, .inr ⟨by decide, by decide⟩, .int o, rfl, .inl ⟨o, rfl, _, _, rfl, rfl, (by show (0 : Int) < _; decide), _, _, rfl, rfl, .inr ⟨by decide, by decide⟩, _, _, rfl, rfl, _, _, rfl, rfl, .inl ⟨_, rfl, _, _, rfl, rfl, (by show (0 : Int) < _; decide), ?_⟩⟩⟩
      have fin : ∀ x y : Int, [V.int x, .int y, .int 0].length ≤ sizeLine ∧ ∀ a, H2 a = none → Q (.ref a) (upd H2 a (.lst [.int x, .int y, .int 0])) := fun x y => ⟨sz (by simp), fun a na => q a _ (s1.trans (same_new na)) (s1.free na) ⟨_, _, _, upd_same⟩⟩
      refine ⟨.int o, rfl, _, _, rfl, rfl, _, rfl, ite2 (fun c1 => ?_) (fun c1 => ?_)⟩
      · exact iteT ⟨.int o, rfl, o, rfl, _, rfl, fin _ _⟩
      · refine ⟨.int o, rfl, _, _, rfl, rfl, ⟨by decide, by decide, by decide⟩, _, _, rfl, rfl, _, rfl, ite2 (fun c2 => ?_) (fun c2 => ?_)⟩
        · exact ⟨.int o, rfl, o, rfl, _, rfl, fin _ _⟩
        · exact ⟨_, rfl, fin _ _⟩

end
end K44

set_option linter.all false
set_option maxRecDepth 10000
/-! numbers, rows, polys: what the answers are -/
namespace K44R
/-- without the last items that z holds of -/
def trimBy {α : Type} (z : α → Bool) : List α → List α
  | [] => []
  | a :: l => match trimBy z l with
    | [] => if z a then [] else [a]
    | b :: r => a :: b :: r
theorem trimBy_take {α : Type} (z : α → Bool) : ∀ (l : List α) (k : Nat), k ≤ l.length → (∀ i a, k ≤ i → l[i]? = some a → z a = true) → (k = 0 ∨ ∃ a, l[k - 1]? = some a ∧ z a = false) → trimBy z l = l.take k
  | [], k, hk, _, _ => by simp [trimBy]
  | a :: l, 0, _, h1, _ => by
    have ih := trimBy_take z l 0 (Nat.zero_le _) (fun i b _ e => h1 (i + 1) b (Nat.zero_le _) (by simpa using e)) (.inl rfl)
    have za := h1 0 a (Nat.le_refl _) rfl
    simp [trimBy, ih, za]
  | a :: l, 1, _, h1, h2 => by
    have ih := trimBy_take z l 0 (Nat.zero_le _) (fun i b _ e => h1 (i + 1) b (by omega) (by simpa using e)) (.inl rfl)
    have za : z a = false := by
      rcases h2 with h2 | ⟨b, e, f⟩
      · cases h2
      · simp at e; subst e; exact f
    simp [trimBy, ih, za]
  | a :: l, k + 2, hk, h1, h2 => by
    have hk' : k + 1 ≤ l.length := by rw [List.length_cons] at hk; omega
    have ih := trimBy_take z l (k + 1) hk' (fun i b hi e => h1 (i + 1) b (by omega) (by simpa using e)) (by
      rcases h2 with h2 | ⟨b, e, f⟩
      · cases h2
      · exact .inr ⟨b, by simpa using e, f⟩)
    have hn : l.take (k + 1) ≠ [] := by
      intro e
      have := congrArg List.length e
      rw [List.length_take, List.length_nil] at this
      omega
    rw [trimBy, ih]
    cases e : l.take (k + 1) with
    | nil => exact absurd e hn
    | cons b r => simp [e]
theorem trimBy_len {α : Type} (z : α → Bool) : ∀ l : List α, (trimBy z l).length ≤ l.length
  | [] => Nat.le_refl _
  | a :: l => by
    have := trimBy_len z l
    rw [trimBy]
    split
    · split <;> simp
    · rename_i b r e
      rw [e] at this
      simpa using this
theorem trimBy_mem {α : Type} (z : α → Bool) {x : α} : ∀ l : List α, x ∈ trimBy z l → x ∈ l
  | [], h => h
  | a :: l, h => by
    have ih := trimBy_mem z (x := x) l
    rw [trimBy] at h
    split at h
    · split at h
      · simp at h
      · simp at h; simp [h]
    · rename_i b r e
      rw [e] at ih
      rcases List.mem_cons.mp h with h | h
      · simp [h]
      · exact List.mem_cons_of_mem _ (ih h)
theorem trimBy_last {α : Type} (z : α → Bool) {x : α} : ∀ l : List α, (trimBy z l).getLast? = some x → z x = false
  | [], h => by simp [trimBy] at h
  | a :: l, h => by
    have ih := trimBy_last z (x := x) l
    rw [trimBy] at h
    split at h
    · split at h
      · simp at h
      · rename_i hz
        simp at h; subst h; simpa using hz
    · rename_i b r e
      rw [e] at ih
      exact ih (by simpa using h)
abbrev trimI (l : List Int) : List Int := trimBy (fun c => c == 0) l
abbrev trimP (p : List (List Int)) : List (List Int) := trimBy (fun r => r.isEmpty) p
/-- a row, a poly -/
def okR (r : List Int) : Prop := ∀ c, r.getLast? = some c → c ≠ 0
def okP (p : List (List Int)) : Prop := (∀ r ∈ p, okR r) ∧ ∀ r, p.getLast? = some r → r ≠ []
theorem okR_trim (l : List Int) : okR (trimI l) := fun c h => by
  have := trimBy_last _ _ h
  simpa using this
theorem okP_trim {p : List (List Int)} (h : ∀ r ∈ p, okR r) : okP (trimP p) := ⟨fun r hr => h r (trimBy_mem _ _ hr), fun r hr => by
  have := trimBy_last _ _ hr
  intro e
  subst e
  simp at this⟩
/-- at most n long, numbers at most b -/
def Bd (n : Nat) (b : Nat) (p : List (List Int)) : Prop := p.length ≤ n ∧ ∀ r ∈ p, r.length ≤ n ∧ ∀ c ∈ r, c.natAbs ≤ b
def T (n m : Int) : List Int → Int
  | [] => 0
  | c :: r => T n m r * n + c * m ^ r.length
def lng : List (List Int) → Nat
  | [] => 0
  | r :: p => max r.length (lng p)
theorem lng_le {r : List Int} : ∀ {p : List (List Int)}, r ∈ p → r.length ≤ lng p
  | a :: p, h => by
    rw [lng]
    rcases List.mem_cons.mp h with rfl | h
    · exact Nat.le_max_left _ _
    · exact Nat.le_trans (lng_le h) (Nat.le_max_right _ _)
theorem lng_bd {n : Nat} : ∀ {p : List (List Int)}, (∀ r ∈ p, r.length ≤ n) → lng p ≤ n
  | [], _ => Nat.zero_le _
  | r :: p, h => by
    rw [lng]
    exact Nat.max_le.mpr ⟨h r (by simp), lng_bd fun a ha => h a (by simp [ha])⟩
def numAt (n m : Int) (L : Nat) (r : List Int) : Int := T n m r * m ^ (L - r.length)
def nums (n m : Int) (p : List (List Int)) : List Int := p.map (numAt n m (lng p))
/-- what numbers and M share -/
def G : Nat → List Int → Nat
  | M, [] => M
  | M, x :: l => G (Nat.gcd M x.natAbs) l
def mm (m : Int) (k : Nat) : Nat := m.natAbs ^ k
def atx (n m : Int) (p : List (List Int)) : List Int := trimI ((nums n m p).map fun x => x / (G (mm m (lng p - 1)) (nums n m p) : Int))
def col (p : List (List Int)) (k : Nat) : List Int := trimI (p.map fun r => r.getD k 0)
def exch (p : List (List Int)) : List (List Int) := trimP ((List.range (lng p)).map (col p))
theorem okP_exch (p : List (List Int)) : okP (exch p) := okP_trim fun r hr => by
  obtain ⟨k, _, rfl⟩ := List.mem_map.mp hr
  exact okR_trim _
theorem bd_exch {n b : Nat} {p : List (List Int)} (h : Bd n b p) : Bd n b (exch p) := by
  refine ⟨Nat.le_trans (trimBy_len _ _) (by rw [List.length_map, List.length_range]; exact lng_bd fun r hr => (h.2 r hr).1), fun r hr => ?_⟩
  obtain ⟨k, _, rfl⟩ := List.mem_map.mp (trimBy_mem _ _ hr)
  refine ⟨Nat.le_trans (trimBy_len _ _) (by rw [List.length_map]; exact h.1), fun c hc => ?_⟩
  obtain ⟨r, hr, rfl⟩ := List.mem_map.mp (trimBy_mem _ _ hc)
  rw [List.getD_eq_getElem?_getD]
  cases e : r[k]? with
  | none => simp
  | some x => exact (h.2 r hr).2 x (List.mem_of_getElem? e)
theorem G_append : ∀ (M : Nat) (l : List Int) (x : Int), G M (l ++ [x]) = Nat.gcd (G M l) x.natAbs
  | M, [], x => rfl
  | M, y :: l, x => by
    show G _ (l ++ [x]) = Nat.gcd (G _ l) x.natAbs
    exact G_append _ l x
theorem G_dvd : ∀ (l : List Int) (M : Nat), G M l ∣ M
  | [], M => Nat.dvd_refl _
  | x :: l, M => Nat.dvd_trans (G_dvd l _) (Nat.gcd_dvd_left _ _)
theorem G_mem {y : Int} : ∀ (l : List Int) (M : Nat), y ∈ l → G M l ∣ y.natAbs
  | x :: l, M, h => by
    rcases List.mem_cons.mp h with rfl | h
    · exact Nat.dvd_trans (G_dvd l _) (Nat.gcd_dvd_right _ _)
    · exact G_mem l _ h
theorem G_gcd : ∀ (l : List Int) (a M : Nat), Nat.gcd (G a l) M = G (Nat.gcd a M) l
  | [], a, M => rfl
  | x :: l, a, M => by
    show Nat.gcd (G (Nat.gcd a x.natAbs) l) M = G (Nat.gcd (Nat.gcd a M) x.natAbs) l
    rw [G_gcd l, Nat.gcd_assoc, Nat.gcd_comm x.natAbs M, ← Nat.gcd_assoc]
theorem G_one (l : List Int) : G 1 l = 1 := Nat.eq_one_of_dvd_one (G_dvd l 1)
/-- the program's share -/
theorem G_zero (l : List Int) (M : Nat) : Nat.gcd (G 0 l) M = G M l := by rw [G_gcd, Nat.gcd_zero_left]
/-- a over b is N over D, b positive, nothing shared -/
def Lo (a b N D : Int) : Prop := 0 < b ∧ Nat.gcd a.natAbs b.natAbs = 1 ∧ a * D = N * b
theorem lo_share {a b N D : Int} (h : Lo a b N D) (d : 0 < D) : b * (Nat.gcd N.natAbs D.natAbs : Int) = D ∧ a * (Nat.gcd N.natAbs D.natAbs : Int) = N := by
  obtain ⟨b0, c, e⟩ := h
  have dv : b ∣ D := by
    have h1 : b.natAbs ∣ a.natAbs * D.natAbs := by
      rw [← Int.natAbs_mul, e, Int.natAbs_mul]
      exact Nat.dvd_mul_left _ _
    have h2 : b.natAbs ∣ D.natAbs := (Nat.Coprime.dvd_of_dvd_mul_left (Nat.coprime_comm.mp c) h1)
    exact Int.natAbs_dvd_natAbs.mp h2
  obtain ⟨k, rfl⟩ := dv
  have k0 : 0 < k := by
    rcases Int.lt_or_le 0 k with z | z
    · exact z
    · have := Int.mul_le_mul_of_nonneg_left z (Int.le_of_lt b0)
      rw [Int.mul_zero] at this
      omega
  have eN : N = a * k := by
    have h3 : (a * k) * b = N * b := by rw [← e, Int.mul_assoc, Int.mul_comm k b]
    exact (Int.eq_of_mul_eq_mul_right (by omega) h3).symm
  subst eN
  have g : (Nat.gcd (a * k).natAbs (b * k).natAbs : Int) = k := by
    rw [Int.natAbs_mul, Int.natAbs_mul, Nat.gcd_mul_right, c, Nat.one_mul]
    omega
  rw [g]
  exact ⟨rfl, rfl⟩
/-- the least common multiple's step -/
theorem lcm_step {l g b h M : Nat} (m0 : 0 < M) (e1 : l * g = M) (e2 : b * h = M) : (l * b / Nat.gcd l b) * Nat.gcd g h = M := by
  have hl : l ∣ M := ⟨g, e1.symm⟩
  have l0 : 0 < l := Nat.pos_of_dvd_of_pos hl m0
  have d0 : 0 < Nat.gcd l b := Nat.gcd_pos_of_pos_left _ l0
  have q : (l * b / Nat.gcd l b) * Nat.gcd l b = l * b := Nat.div_mul_cancel (Nat.dvd_trans (Nat.gcd_dvd_left l b) (Nat.dvd_mul_right _ _))
  have k : Nat.gcd g h * (l * b) = M * Nat.gcd l b := by
    rw [← Nat.gcd_mul_right]
    have a1 : g * (l * b) = M * b := by rw [← e1, ← Nat.mul_assoc, Nat.mul_comm g l]
    have a2 : h * (l * b) = M * l := by rw [← e2, Nat.mul_comm l b, ← Nat.mul_assoc, Nat.mul_comm h b]
    rw [a1, a2, Nat.gcd_mul_left, Nat.gcd_comm b l]
  refine Nat.eq_of_mul_eq_mul_right d0 ?_
  rw [Nat.mul_assoc, Nat.mul_comm (Nat.gcd g h), ← Nat.mul_assoc, q, Nat.mul_comm (l * b), k]
theorem pow_pos' {m : Int} (h : 0 < m) : ∀ k : Nat, 0 < m ^ k
  | 0 => by simp
  | k + 1 => by rw [Int.pow_succ]; exact Int.mul_pos (pow_pos' h k) h
theorem mm_eq {m : Int} (h : 0 < m) (k : Nat) : ((mm m k : Nat) : Int) = m ^ k := by
  unfold mm
  rw [Int.natCast_pow, Int.natAbs_of_nonneg (Int.le_of_lt h)]
/-- a row's worth, over the common base -/
theorem lo_at {n m a b : Int} {r : List Int} {L : Nat} (m0 : 0 < m) (hl : r.length ≤ L) (h : Lo a b (T n m r * m) (m ^ r.length)) : Lo a b (numAt n m L r) (m ^ (L - 1)) := by
  refine ⟨h.1, h.2.1, ?_⟩
  have e := h.2.2
  unfold numAt
  cases hr : r with
  | nil =>
    subst hr
    have : a = 0 := by simpa [T] using e
    simp [T, this]
  | cons c s =>
    rw [← hr]
    have l1 : r.length = s.length + 1 := by rw [hr]; rfl
    have e2 : a * m ^ s.length = T n m r * b := by
      rw [l1, Int.pow_succ] at e
      refine Int.eq_of_mul_eq_mul_right (a := m) (by omega) ?_
      rw [Int.mul_assoc, e, Int.mul_assoc, Int.mul_comm m b, Int.mul_assoc]
    have e3 : L - 1 = s.length + (L - r.length) := by omega
    rw [e3, Int.pow_add, ← Int.mul_assoc, e2, Int.mul_assoc, Int.mul_comm b, ← Int.mul_assoc]
/-! sizes -/
theorem T_le {n m : Int} {B : Nat} (hn : n.natAbs ≤ 12) (m0 : m.natAbs ≤ 7) : ∀ r : List Int, (∀ c ∈ r, c.natAbs ≤ B) → (T n m r).natAbs ≤ B * 20 ^ r.length
  | [], _ => by simp [T]
  | c :: r, h => by
    have ih := T_le hn m0 r fun d hd => h d (by simp [hd])
    have hc := h c (by simp)
    rw [T]
    refine Nat.le_trans (Int.natAbs_add_le _ _) ?_
    rw [Int.natAbs_mul, Int.natAbs_mul, Int.natAbs_pow, List.length_cons, Nat.pow_succ]
    have a1 : (T n m r).natAbs * n.natAbs ≤ B * 20 ^ r.length * 12 := Nat.mul_le_mul ih hn
    have a2 : c.natAbs * m.natAbs ^ r.length ≤ B * 20 ^ r.length := Nat.mul_le_mul hc (Nat.le_trans (Nat.pow_le_pow_left m0 _) (Nat.pow_le_pow_left (by omega) _))
    have a3 : B * (20 ^ r.length * 20) = B * 20 ^ r.length * 20 := by rw [Nat.mul_assoc]
    omega
theorem num_le {n m : Int} {B L : Nat} (hn : n.natAbs ≤ 12) (m0 : m.natAbs ≤ 7) (hL : L ≤ 10) {r : List Int} (hr : r.length ≤ 10) (h : ∀ c ∈ r, c.natAbs ≤ B) : (numAt n m L r).natAbs ≤ B * 20 ^ 10 * 7 ^ 10 := by
  unfold numAt
  rw [Int.natAbs_mul, Int.natAbs_pow]
  refine Nat.mul_le_mul (Nat.le_trans (T_le hn m0 r h) (Nat.mul_le_mul_left _ (Nat.pow_le_pow_right (by omega) hr))) ?_
  exact Nat.le_trans (Nat.pow_le_pow_left m0 _) (Nat.pow_le_pow_right (by omega) (by omega))
theorem lo_lean {top low : Int} (h : 0 < low) : Lo (top / (Nat.gcd top.natAbs low.natAbs : Int)) (low / (Nat.gcd top.natAbs low.natAbs : Int)) top low := by
  have g0 : 0 < Nat.gcd top.natAbs low.natAbs := Nat.gcd_pos_of_pos_right _ (by omega)
  generalize hg : Nat.gcd top.natAbs low.natAbs = g at g0
  have d1 : (g : Int) ∣ top := Int.natAbs_dvd_natAbs.mp (by rw [← hg]; exact Nat.gcd_dvd_left _ _)
  have d2 : (g : Int) ∣ low := Int.natAbs_dvd_natAbs.mp (by rw [← hg]; exact Nat.gcd_dvd_right _ _)
  obtain ⟨x, rfl⟩ := d1
  obtain ⟨y, rfl⟩ := d2
  have gn : (g : Int) ≠ 0 := by omega
  rw [Int.mul_ediv_cancel_left _ gn, Int.mul_ediv_cancel_left _ gn]
  refine ⟨?_, ?_, by grind⟩
  · rcases Int.lt_or_le 0 y with z | z
    · exact z
    · have := Int.mul_le_mul_of_nonneg_left z (show (0 : Int) ≤ g by omega)
      rw [Int.mul_zero] at this
      omega
  · rw [Int.natAbs_mul, Int.natAbs_mul, Nat.gcd_mul_left, Int.natAbs_natCast] at hg
    have h1 : g * Nat.gcd x.natAbs y.natAbs = g * 1 := by rw [hg, Nat.mul_one]
    exact Nat.eq_of_mul_eq_mul_left g0 h1
theorem lo_mul {a b N D n m x y : Int} (h : Lo a b N D) (g : Lo x y (a * n) (b * m)) : Lo x y (N * n) (D * m) := by
  refine ⟨g.1, g.2.1, ?_⟩
  have b0 := h.1
  have h1 := h.2.2
  have h2 := g.2.2
  have : (x * (D * m)) * b = (N * n * y) * b := by grind
  exact Int.eq_of_mul_eq_mul_right (by omega) this
theorem lo_add {a b N D c x y : Int} (h : Lo a b N D) (g : Lo x y (a * 1 + c * b) (b * 1)) : Lo x y (N + c * D) D := by
  refine ⟨g.1, g.2.1, ?_⟩
  have b0 := h.1
  have h1 := h.2.2
  have h2 := g.2.2
  have : (x * D) * b = ((N + c * D) * y) * b := by grind
  exact Int.eq_of_mul_eq_mul_right (by omega) this
theorem lo_le {a b N D : Int} (h : Lo a b N D) (d : 0 < D) : b ≤ D := by
  have := (lo_share h d).1
  have g0 : 0 < Nat.gcd N.natAbs D.natAbs := Nat.gcd_pos_of_pos_right _ (by omega)
  have b0 := h.1
  have := Int.mul_le_mul_of_nonneg_left (show (1 : Int) ≤ (Nat.gcd N.natAbs D.natAbs : Int) by omega) (show 0 ≤ b by omega)
  omega
theorem pow_le7 {m : Int} (m0 : 0 < m) (m1 : m ≤ 7) (k : Nat) : m ^ k ≤ 7 ^ k := by
  induction k with
  | zero => simp
  | succ k ih =>
    rw [Int.pow_succ, Int.pow_succ]
    exact Int.mul_le_mul ih m1 (by omega) (Int.le_of_lt (pow_pos' (by omega) k))
theorem pow_mono7 {k j : Nat} (h : k ≤ j) : (7 : Int) ^ k ≤ 7 ^ j := by
  have := Nat.pow_le_pow_right (n := 7) (by omega) h
  exact_mod_cast this
theorem max_lng {p : List (List Int)} {k : Int} (h1 : k ∈ (0 : Int) :: p.map (fun r => (r.length : Int))) (h2 : ∀ y ∈ (0 : Int) :: p.map (fun r => (r.length : Int)), y ≤ k) : k = (lng p : Int) := by
  have up : (lng p : Int) ≤ k := by
    clear h1
    induction p with
    | nil => exact h2 0 (by simp)
    | cons r p ih =>
      have a := ih fun y hy => h2 y (by
        rcases List.mem_cons.mp hy with hy | hy
        · simp [hy]
        · rw [List.map_cons]; exact List.mem_cons_of_mem _ (List.mem_cons_of_mem _ hy))
      have b := h2 r.length (by simp)
      rw [lng]
      omega
  rcases List.mem_cons.mp h1 with h | h
  · omega
  · obtain ⟨r, hr, rfl⟩ := List.mem_map.mp h
    have := lng_le hr
    omega
/-- the loop's step -/
theorem low_step {l Gn M : Nat} {a b N : Int} (m0 : 0 < M) (e : l * Gn = M) (h : Lo a b N (M : Int)) : (l * b.natAbs / Nat.gcd l b.natAbs) * Nat.gcd Gn N.natAbs = M := by
  have sh := (lo_share h (by omega)).1
  have e2 : b.natAbs * Nat.gcd N.natAbs M = M := by
    have := congrArg Int.natAbs sh
    rw [Int.natAbs_mul, Int.natAbs_natCast, Int.natAbs_natCast] at this
    exact this
  have := lcm_step m0 e e2
  have d : Gn ∣ M := ⟨l, by rw [← e, Nat.mul_comm]⟩
  have g : Nat.gcd Gn (Nat.gcd N.natAbs M) = Nat.gcd Gn N.natAbs := by
    rw [Nat.gcd_comm N.natAbs M, ← Nat.gcd_assoc, Nat.gcd_eq_left d]
  rw [g] at this
  exact this
theorem low_end {l Gn M : Nat} {a b N : Int} (m0 : 0 < M) (e : l * Gn = M) (d : Gn ∣ N.natAbs) (h : Lo a b N (M : Int)) : a * ((l : Int) / b) = N / (Gn : Int) := by
  obtain ⟨s1, s2⟩ := lo_share h (by omega)
  have g1 : Gn ∣ M := ⟨l, by rw [← e, Nat.mul_comm]⟩
  have g0 : 0 < Gn := Nat.pos_of_dvd_of_pos g1 m0
  have g2 : Gn ∣ Nat.gcd N.natAbs M := Nat.dvd_gcd d g1
  rw [Int.natAbs_natCast] at s1 s2
  obtain ⟨k, hk⟩ := g2
  rw [hk] at s1 s2
  have b0 := h.1
  have gi : (Gn : Int) ≠ 0 := by omega
  have el : (l : Int) = b * k := by
    have : (l : Int) * Gn = (b * k) * Gn := by
      rw [show (l : Int) * Gn = ((l * Gn : Nat) : Int) from by simp, e, ← s1]
      rw [Int.natCast_mul]
      grind
    exact Int.eq_of_mul_eq_mul_right gi this
  rw [el, Int.mul_ediv_cancel_left _ (by omega), ← s2, Int.natCast_mul]
  rw [show a * ((Gn : Int) * (k : Int)) = (Gn : Int) * (a * k) from by grind, Int.mul_ediv_cancel_left _ gi]
theorem mm_pos {m : Int} (h : 0 < m) (k : Nat) : 0 < mm m k := Nat.pow_pos (by omega)
theorem mm_le {m : Int} (h : m.natAbs ≤ 7) {k : Nat} (hk : k ≤ 7) : mm m k ≤ 823543 := by
  have : mm m k ≤ 7 ^ 7 := Nat.le_trans (Nat.pow_le_pow_left h k) (Nat.pow_le_pow_right (by omega) hk)
  exact this
theorem G_take {n m : Int} {p : List (List Int)} {M i : Nat} {r : List Int} (h : p[i]? = some r) : G M ((nums n m p).take (i + 1)) = Nat.gcd (G M ((nums n m p).take i)) (numAt n m (lng p) r).natAbs := by
  have e : (nums n m p)[i]? = some (numAt n m (lng p) r) := by unfold nums; rw [List.getElem?_map, h]; rfl
  rw [List.take_add_one, e]
  exact G_append _ _ _
theorem G_split : ∀ (l k : List Int) (M : Nat), G M (l ++ k) = G (G M l) k
  | [], k, M => rfl
  | x :: l, k, M => G_split l k _
theorem G_early {l : List Int} {i : Nat} (h : G 0 (l.take i) = 1) : G 0 l = 1 := by
  have e : l = l.take i ++ l.drop i := (List.take_append_drop i l).symm
  rw [e, G_split, h]
  exact G_one _
theorem max_fold : ∀ (p : List (List Int)) (a : Int), 0 ≤ a → (p.map fun r => ((r.length : Nat) : Int)).foldl max a = max a (lng p : Int)
  | [], a, h => by
    show a = max a (((0 : Nat)) : Int)
    omega
  | r :: p, a, h => by
    rw [List.map_cons, List.foldl_cons, max_fold p _ (by omega), lng]
    omega
end K44R

set_option Elab.async false
set_option linter.all false
set_option maxRecDepth 100000
set_option maxHeartbeats 4000000
local macro_rules | `(tactic| walk_at "rd") => `(tactic| dsimp only [Evl.tCut, L2.tSeq, L2.tNext, L2.tRet, L2.tRetN, L2.tAsg, L2.gName, L2.tIfS, L2.tDrop, L2.tCons, L2.tNil, L2.tC, L2.tVar, L2.tCB, L2.tAndV, L2.tOrV, L2.tNotV, L2.tB, L2.tTest, L2.tOp, L2.tUn, L2.tNot, L2.tAnd, L2.tOr, L2.tIf, L2.tCall, L2.tTup, L2.tLst, L2.tNotT, L2.tYes, L2.gTup, L2.gCons, L2.gNil, L2.gSub, L2.tBM0, L2.tBM, L2.tWhile, L2.tFor, L2.iRng1, L2.iRng2, L2.tAugS, Tw.iEnumT, L2.tCKw, L2.tAug, L2.ipI, RT.iRevA, L2.tPar, L2.tPar3, L2.tSl, L2.tNoPart, L2.tPart, Tw.tRevT])
namespace K44R
open PySem PySem.Spec PyProof.Rows L2 Tw
def top (i : Nat) : Stmt := PySem.Challenge.pw_twoletters_k44_whole_exchanged_put_and_p.main.body.getD i (.Pass ⟨0, 0, 0, 0⟩)
abbrev sWhole : Stmt := top 8
abbrev sIsFr : Stmt := top 9
abbrev sPower : Stmt := top 10
abbrev sTrimmed : Stmt := top 12
abbrev sScaled : Stmt := top 13
abbrev sRow : Stmt := top 15
abbrev sPTrim : Stmt := top 18
abbrev sPExch : Stmt := top 19
abbrev sPoly : Stmt := top 21
abbrev sCommon : Stmt := top 51
abbrev sLean : Stmt := top 52
/-- built-in names that the text gives no other meaning -/
structure Nb (mg : Str → Option Value) : Prop where
  isi : mg "isinstance" = none
  int : mg "int" = none
  bool : mg "bool" = none
  tup : mg "tuple" = none
  all : mg "all" = none
  len : mg "len" = none
  lst : mg "list" = none
  dvm : mg "divmod" = none
  rng : mg "range" = none
  max : mg "max" = none
  min : mg "min" = none
  abs : mg "abs" = none
  repr : mg "repr" = none
  rev : mg "reversed" = none
  gc : mg "gcd" = some (.builtin "math.gcd")

/-! ### what the answers are -/
def wholeB (d : PyData) : Bool := isIntD d && !isBoolD d
def lastD (ds : List PyData) (d : PyData) : Bool := match ds.getLast? with
  | some e => !(PyData.eqv e d)
  | none => true
def rowB : PyData → Bool
  | .tuple ds => (ds.map wholeB).all id && lastD ds (.int 0)
  | _ => false
def polyB : PyData → Bool
  | .tuple ds => (ds.map rowB).all id && lastD ds (.tuple [])
  | _ => false
/-- the answer is f of the datum -/
def spB (f : PyData → Bool) : Sp := fun vs H Q _ => ∃ a v d m, vs = [v] ∧ Da a H v d ∧ Sm m 1000 d ∧ ∀ H', Same H H' → Q (.bl (f d)) H'

theorem getLast_get {α : Type} {xs : List α} {x : α} (h : xs.getLast? = some x) : xs[xs.length - 1]? = some x := by
  rw [← List.getLast?_eq_getElem?]; exact h
theorem atI_end {α : Type} {xs : List α} {x : α} (h : xs.getLast? = some x) : atI xs (-1) = some x := by
  obtain ⟨ys, rfl⟩ := List.getLast?_eq_some_iff.mp h
  exact atI_last _ _
theorem last_both {a : Addr} {H : Hp} {xs : List V} {ds : List PyData} (h : DaAll a H xs ds) (ne : ds ≠ []) : ∃ x d, xs.getLast? = some x ∧ ds.getLast? = some d ∧ d ∈ ds ∧ Da a H x d := by
  have l := h.len
  have hp : 0 < ds.length := List.length_pos_iff.mpr ne
  have hx : xs.length - 1 < xs.length := by omega
  obtain ⟨d, e1, e2⟩ := h.get (List.getElem?_eq_getElem hx)
  refine ⟨xs[xs.length - 1], d, ?_, ?_, List.mem_of_getElem? e1, e2⟩
  · rw [List.getLast?_eq_getElem?]; exact List.getElem?_eq_getElem hx
  · rw [List.getLast?_eq_getElem?, ← l]; exact e1
section
variable {P : Program} {w : World} {K : PySem.W.Frag} {mg : Str → Option Value} {base : Heap}
theorem scWhole : FnScope ["value"] ["value"] (defScope sWhole) := ⟨rfl, rfl, rfl, by decide +kernel, rfl, by decide +kernel, by decide +kernel⟩
theorem ok_whole (D : Def K mg "is_whole" sWhole ["value"]) (nb : Nb mg) : Cal P w K mg base "is_whole" 1 ["value"] (spB wholeB) := by
  refine D.ok scWhole (fun vs H Q E h => ?_) (fun f cdv A out s H vs Q E hr h => ?_)
  · obtain ⟨a, v, d, m, rfl, _⟩ := h; rfl
  obtain ⟨a, v, d, m, rfl, hd, hs, q⟩ := h
  refine ⟨_, pss_one (ps_ret (pe_and (pe_callB (id := "isinstance") (r := rIsi K) call_isi (by rfl) nb.isi (by decide +kernel) (pa_cons (pv 0) (pa_cons (pe_bltn (v := .ty "int") (by rfl) nb.int (by decide +kernel) rfl) pa_nil)))
    (pe_one (pe_not (pe_callB (id := "isinstance") (r := rIsi K) call_isi (by rfl) nb.isi (by decide +kernel) (pa_cons (pv 0) (pa_cons (pe_bltn (v := .ty "bool") (by rfl) nb.bool (by decide +kernel) rfl) pa_nil))))))), ?_⟩
  walk_at "rd"
  refine ⟨v, rfl, isi hd (isi_int d) ⟨isIntD d, rfl, ?_⟩⟩
  have q' := q H (Same.refl H)
  unfold wholeB at q'
  cases hi : isIntD d with
  | false => rw [hi] at q'; exact iteF q'
  | true =>
    rw [hi] at q'
    refine iteT ⟨v, rfl, isi hd (isi_bool d) ⟨isBoolD d, rfl, q'⟩⟩

theorem tup_of {a : Addr} {H : Hp} {v : V} {d : PyData} (h : Da a H v d) (t : isTupD d = true) : ∃ p xs ds, v = .ref p ∧ d = .tuple ds ∧ p ≠ a ∧ H p = some (.tup xs) ∧ DaAll a H xs ds := by
  cases h with
  | tup n e r => exact ⟨_, _, _, rfl, rfl, n, e, r⟩
  | _ => exact absurd t (by simp [isTupD])
theorem int_of {a : Addr} {H : Hp} {v : V} {d : PyData} (h : Da a H v d) (t : wholeB d = true) : ∃ i, v = .int i ∧ d = .int i := by
  cases h with
  | int i => exact ⟨i, rfl, rfl⟩
  | _ => exact absurd t (by simp [wholeB, isIntD, isBoolD])
theorem not_tup {d : PyData} (h : isTupD d = false) : rowB d = false ∧ polyB d = false := by
  cases d <;> first | exact ⟨rfl, rfl⟩ | cases h
theorem row_tup {d : PyData} (h : rowB d = true) : isTupD d = true := by
  cases d <;> first | rfl | cases h
theorem all_mem {f : PyData → Bool} {ds : List PyData} {d : PyData} (h : (ds.map f).all id = true) (m : d ∈ ds) : f d = true := by
  rw [List.all_eq_true] at h
  exact h (f d) (List.mem_map_of_mem m)
theorem empty_iff {a : Addr} {H : Hp} {xs : List V} {ds : List PyData} (h : DaAll a H xs ds) : xs.isEmpty = ds.isEmpty := by
  cases h <;> rfl
theorem wipe1 (σ : L2.St) (j : Nat) (x : V) : wipe ((wipe σ [j]).set j (some x)) [j] = wipe σ [j] := by
  show ((σ.set j none).set j (some x)).set j none = σ.set j none
  rw [List.set_set, List.set_set]

theorem scRow : FnScope ["value", "number"] ["value"] (defScope sRow) := ⟨rfl, rfl, rfl, by decide +kernel, rfl, by decide +kernel, by decide +kernel⟩
theorem ok_row (D : Def K mg "is_row" sRow ["value"]) (nb : Nb mg) (c1 : Cal P w K mg base "is_whole" 1 ["value"] (spB wholeB)) : Cal P w K mg base "is_row" 2 ["value"] (spB rowB) := by
  refine D.ok scRow (fun vs H Q E h => ?_) (fun f cdv A out s H vs Q E hr h => ?_)
  · obtain ⟨a, v, d, m, rfl, _⟩ := h; rfl
  obtain ⟨a, v, d, m, rfl, hd, hs, q⟩ := h
  refine ⟨_, pss_cons (ps_if (PW.pt (pw_or (pt_not (pt_val (pe_callB (id := "isinstance") (r := rIsi K) call_isi (by rfl) nb.isi (by decide +kernel) (pa_cons (pv 0) (pa_cons (pe_bltn (v := .ty "tuple") (by rfl) nb.tup (by decide +kernel) rfl) pa_nil)))))
      (pw_or1 (pt_not (pt_val (pe_callB (cr_all rfl) (by rfl) nb.all (by decide +kernel) (pa_cons
        (pe_lc (own := [("number", 1)]) (g := gName 1) (tt := tYes) rfl scRow.nd (pi_tup (pv 0)) (blkOk_by (N := ["value", "number"]) (sc := defScope sRow) (by decide +kernel))
          (fun _ _ _ _ _ => pg_name (i := 1) scRow.nd rfl (Or.inl rfl)) (fun _ _ _ _ _ => pts_nil) (fun _ _ _ _ _ => pe_cal c1 hr (Nat.le_refl 1) (by rfl) (pa_cons (pv 1) pa_nil))) pa_nil)))))))
      (pss_one (ps_ret pe_bl)) pss_nil)
    (pss_one (ps_ret (pe_or (pe_notT (pv 0)) (pe_one (pe_cmpR op_ne (pe_ix ix_tup (pv 0) (pe_un un_neg pe_int) (fun _ _ => rfl)) pe_int (nomark _)))))), ?_⟩
  walk_at "rd"
  refine ⟨v, rfl, isi hd (isi_tup d) ⟨isTupD d, rfl, ?_⟩⟩
  cases ht : isTupD d with
  | false =>
    have q' := q H (Same.refl H)
    rw [(not_tup ht).1] at q'
    exact iteT (iteT q')
  | true =>
    obtain ⟨p, xs, ds, rfl, rfl, np, hp, hx⟩ := tup_of hd ht
    have hn : xs.length < 100000 := by rw [hx.len]; have := hs.len; omega
    refine iteF (lc_mapT (fun d => V.bl (wholeB d)) rfl hp hx hn (wipe1 _ 1) (fun x d H1 hm s1 dx R k => ?_) fun L H1 s1 nL hL => ?_)
    · exact ⟨x, rfl, a, x, d, _, rfl, dx, hs.mem hm, k⟩
    refine ⟨L, ds.map wholeB, rfl, SqL.of (by rw [List.map_map]; exact hL), _, rfl, ?_⟩
    have q' : Q (.bl ((ds.map wholeB).all id && lastD ds (.int 0))) H1 := q H1 s1
    cases hw : (ds.map wholeB).all id with
    | false => rw [hw] at q'; exact iteT q'
    | true =>
      rw [hw] at q'
      refine iteF ⟨.ref p, rfl, _, .inr (.inl ⟨xs, SqT.of (s1 _ _ hp), rfl⟩), _, rfl, ?_⟩
      rw [empty_iff hx, Bool.not_not]
      cases hds : ds with
      | nil => subst hds; exact iteT q'
      | cons d0 dr =>
        have ne : ds ≠ [] := by rw [hds]; simp
        obtain ⟨x, dl, e1, e2, e3, e4⟩ := last_both hx ne
        obtain ⟨i, rfl, rfl⟩ := int_of e4 (all_mem hw e3)
        refine iteF ⟨.ref p, rfl, 1, rfl, p, xs, -1, .int i, rfl, rfl, SqT.of (s1 _ _ hp), atI_end e1, rfl, ?_⟩
        unfold lastD at q'
        rw [e2] at q'
        rw [dec_int]
        simpa [PyData.eqv] using q'

/-- not value or value[-1] != 0, both ways of saying it: what is asked of the last number -/
theorem end_int {a p : Addr} {H : Hp} {Q : VK} {xs : List V} {ds : List PyData} (hx : DaAll a H xs ds) (hp : H p = some (.tup xs)) (ne : ds ≠ []) (hw : (ds.map wholeB).all id = true)
    (q : Q (.bl (lastD ds (.int 0))) H) : rIxT K (.ref p) (.int (-1)) H fun x H1 => rNe x (.int 0) H1 Q := by
  obtain ⟨x, dl, e1, e2, e3, e4⟩ := last_both hx ne
  obtain ⟨i, rfl, rfl⟩ := int_of e4 (all_mem hw e3)
  refine ⟨p, xs, -1, .int i, rfl, rfl, SqT.of hp, atI_end e1, rfl, ?_⟩
  unfold lastD at q
  rw [e2] at q
  rw [dec_int]
  simpa [PyData.eqv] using q

/-- .. of the last row -/
theorem end_row {a p : Addr} {H : Hp} {Q : VK} {xs : List V} {ds : List PyData} (hx : DaAll a H xs ds) (hp : H p = some (.tup xs)) (ne : ds ≠ []) (hw : (ds.map rowB).all id = true)
    (q : ∀ H', Same H H' → Q (.bl (lastD ds (.tuple []))) H') :
    rIxT K (.ref p) (.int (-1)) H fun x H1 => ([] : List V).length ≤ sizeLine ∧ ∀ t, H1 t = none → rT0 true K x (.ref t) (upd H1 t (.tup [])) Q := by
  obtain ⟨x, dl, e1, e2, e3, e4⟩ := last_both hx ne
  obtain ⟨p2, xs2, ds2, rfl, rfl, np2, hp2, hx2⟩ := tup_of e4 (row_tup (all_mem hw e3))
  refine ⟨p, xs, -1, .ref p2, rfl, rfl, SqT.of hp, atI_end e1, sz (by decide), fun t nt => ?_⟩
  have s2 := same_new (o := .tup []) nt
  refine ⟨p2, t, xs2, [], rfl, rfl, SqT.of (s2 _ _ hp2), SqT.of upd_same, rfl, ?_⟩
  have q' := q _ s2
  unfold lastD at q'
  rw [e2] at q'
  cases hx2 with
  | nil => simpa [PyData.eqv, PyData.eqvAll] using q'
  | cons _ _ => simpa [PyData.eqv, PyData.eqvAll] using q'
theorem scPoly : FnScope ["value", "row"] ["value"] (defScope sPoly) := ⟨rfl, rfl, rfl, by decide +kernel, rfl, by decide +kernel, by decide +kernel⟩
theorem ok_poly (D : Def K mg "is_poly" sPoly ["value"]) (nb : Nb mg) (c1 : Cal P w K mg base "is_row" 2 ["value"] (spB rowB)) : Cal P w K mg base "is_poly" 3 ["value"] (spB polyB) := by
  refine D.ok scPoly (fun vs H Q E h => ?_) (fun f cdv A out s H vs Q E hr h => ?_)
  · obtain ⟨a, v, d, m, rfl, _⟩ := h; rfl
  obtain ⟨a, v, d, m, rfl, hd, hs, q⟩ := h
  refine ⟨_, pss_cons (ps_if (PW.pt (pw_or (pt_not (pt_val (pe_callB (id := "isinstance") (r := rIsi K) call_isi (by rfl) nb.isi (by decide +kernel) (pa_cons (pv 0) (pa_cons (pe_bltn (v := .ty "tuple") (by rfl) nb.tup (by decide +kernel) rfl) pa_nil)))))
      (pw_or1 (pt_not (pt_val (pe_callB (cr_all rfl) (by rfl) nb.all (by decide +kernel) (pa_cons
        (pe_lc (own := [("row", 1)]) (g := gName 1) (tt := tYes) rfl scPoly.nd (pi_tup (pv 0)) (blkOk_by (N := ["value", "row"]) (sc := defScope sPoly) (by decide +kernel))
          (fun _ _ _ _ _ => pg_name (i := 1) scPoly.nd rfl (Or.inl rfl)) (fun _ _ _ _ _ => pts_nil) (fun _ _ _ _ _ => pe_cal c1 hr (Nat.le_refl 2) (by rfl) (pa_cons (pv 1) pa_nil))) pa_nil)))))))
      (pss_one (ps_ret pe_bl)) pss_nil)
    (pss_one (ps_ret (pe_or (pe_notT (pv 0)) (pe_one (pe_cmpR (op_neT0 hr.units) (pe_ix ix_tup (pv 0) (pe_un un_neg pe_int) (fun _ _ => rfl)) (pe_tup pa_nil) (nomark _)))))), ?_⟩
  walk_at "rd"
  refine ⟨v, rfl, isi hd (isi_tup d) ⟨isTupD d, rfl, ?_⟩⟩
  cases ht : isTupD d with
  | false =>
    have q' := q H (Same.refl H)
    rw [(not_tup ht).2] at q'
    exact iteT (iteT q')
  | true =>
    obtain ⟨p, xs, ds, rfl, rfl, np, hp, hx⟩ := tup_of hd ht
    have hn : xs.length < 100000 := by rw [hx.len]; have := hs.len; omega
    refine iteF (lc_mapT (fun d => V.bl (rowB d)) rfl hp hx hn (wipe1 _ 1) (fun x d H1 hm s1 dx R k => ?_) fun L H1 s1 nL hL => ?_)
    · exact ⟨x, rfl, a, x, d, _, rfl, dx, hs.mem hm, k⟩
    refine ⟨L, ds.map rowB, rfl, SqL.of (by rw [List.map_map]; exact hL), _, rfl, ?_⟩
    have q' : ∀ H', Same H H' → Q (.bl ((ds.map rowB).all id && lastD ds (.tuple []))) H' := q
    cases hw : (ds.map rowB).all id with
    | false => rw [hw] at q'; exact iteT (q' _ s1)
    | true =>
      rw [hw] at q'
      refine iteF ⟨.ref p, rfl, _, .inr (.inl ⟨xs, SqT.of (s1 _ _ hp), rfl⟩), _, rfl, ?_⟩
      rw [empty_iff hx, Bool.not_not]
      cases hds : ds with
      | nil => subst hds; exact iteT (q' _ s1)
      | cons d0 dr =>
        have ne : ds ≠ [] := by rw [hds]; simp
        exact iteF ⟨.ref p, rfl, 1, rfl, end_row (hx.same s1) (s1 _ _ hp) ne hw fun H' s2 => q' _ (s1.trans s2)⟩
end
end K44R

set_option Elab.async false
set_option linter.all false
set_option maxRecDepth 100000
set_option maxHeartbeats 4000000
local macro_rules | `(tactic| walk_at "rd") => `(tactic| dsimp only [Evl.tCut, L2.tSeq, L2.tNext, L2.tRet, L2.tRetN, L2.tAsg, L2.gName, L2.tIfS, L2.tDrop, L2.tCons, L2.tNil, L2.tC, L2.tVar, L2.tCB, L2.tAndV, L2.tOrV, L2.tNotV, L2.tB, L2.tTest, L2.tOp, L2.tUn, L2.tNot, L2.tAnd, L2.tOr, L2.tIf, L2.tCall, L2.tTup, L2.tLst, L2.tNotT, L2.tYes, L2.gTup, L2.gCons, L2.gNil, L2.gSub, L2.tBM0, L2.tBM, L2.tWhile, L2.tFor, L2.iRng1, L2.iRng2, L2.tAugS, Tw.iEnumT, L2.tCKw, L2.tAug, L2.ipI, RT.iRevA, L2.tPar, L2.tPar3, L2.tSl, L2.tNoPart, L2.tPart, Tw.tRevT])
namespace K44R
open PySem PySem.Spec PyProof.Rows L2 Tw
/-- data that may be compared, at most n deep -/
def Nice (n : Nat) (d : PyData) : Prop := d.canLay0 = true ∧ d.depth ≤ n
theorem canAll {ds : List PyData} (h : ∀ d ∈ ds, d.canLay0 = true) : PyData.canLayAll0 ds = true := by
  induction ds with
  | nil => simp [PyData.canLayAll0]
  | cons d ds ih => simp only [PyData.canLayAll0, h d (by simp), ih fun e he => h e (by simp [he]), Bool.and_self]
theorem depAll {n : Nat} {ds : List PyData} (h : ∀ d ∈ ds, d.depth ≤ n) : PyData.depthAll ds ≤ n := by
  induction ds with
  | nil => simp [PyData.depthAll]
  | cons d ds ih =>
    simp only [PyData.depthAll]
    exact Nat.max_le.mpr ⟨h d (by simp), ih fun e he => h e (by simp [he])⟩
theorem nice_tup {n : Nat} {ds : List PyData} (h : ∀ d ∈ ds, Nice n d) : Nice (n + 1) (.tuple ds) :=
  ⟨by simp only [PyData.canLay0]; exact canAll fun d hd => (h d hd).1, by simp only [PyData.depth]; exact Nat.succ_le_succ (depAll fun d hd => (h d hd).2)⟩
theorem nice_lst {n : Nat} {ds : List PyData} (h : ∀ d ∈ ds, Nice n d) : Nice (n + 1) (.list ds) :=
  ⟨by simp only [PyData.canLay0]; exact canAll fun d hd => (h d hd).1, by simp only [PyData.depth]; exact Nat.succ_le_succ (depAll fun d hd => (h d hd).2)⟩
theorem nice_int (i : Int) : Nice 0 (.int i) := ⟨by simp [PyData.canLay0], by simp [PyData.depth]⟩
theorem Nice.up {n m : Nat} {d : PyData} (h : Nice n d) (l : n ≤ m) : Nice m d := ⟨h.1, Nat.le_trans h.2 l⟩
theorem Nice.shaped {n : Nat} {d : PyData} (h : Nice n d) (l : n ≤ 64) : SeqAt.shaped d = true := by
  unfold SeqAt.shaped
  rw [h.1, decide_eq_true (Nat.le_trans h.2 l)]; rfl
/-- a first part of the list, as a tuple -/
def zD (d : PyData) : Bool := PyData.eqv d (.int 0) || PyData.eqv d (.tuple [])
def spTrim : Sp := fun vs H Q _ => ∃ a p xs ds, vs = [.ref p] ∧ H p = some (.lst xs) ∧ DaAll a H xs ds ∧ (∀ d ∈ ds, Nice 5 d) ∧
  ∀ (k : Nat) q H', k ≤ xs.length → (∀ (i : Nat) d, k ≤ i → ds[i]? = some d → zD d = true) → (k = 0 ∨ ∃ d, ds[k - 1]? = some d ∧ zD d = false) → Same H H' → H q = none → H' q = some (.tup (xs.take k)) → Q (.ref q) H'
section
variable {P : Program} {w : World} {K : PySem.W.Frag} {mg : Str → Option Value} {base : Heap}
theorem take_cases {xs : List V} {m : Nat} (h : m ≤ xs.length) : xs.take m = [] ∧ m = 0 ∨ ∃ j y, m = j + 1 ∧ xs[j]? = some y ∧ xs.take m = xs.take j ++ [y] := by
  cases m with
  | zero => exact .inl ⟨rfl, rfl⟩
  | succ j =>
    have hj : j < xs.length := by omega
    refine .inr ⟨j, xs[j], rfl, List.getElem?_eq_getElem hj, ?_⟩
    rw [List.take_add_one, List.getElem?_eq_getElem hj]; rfl
end
end K44R

set_option Elab.async false
set_option linter.all false
set_option maxRecDepth 100000
set_option maxHeartbeats 4000000
/-! rows and polys in memory -/
namespace K44R
open PySem PySem.Spec PyProof.Rows L2 Tw
/-- tuples are kept -/
def Kt (H H' : Hp) : Prop := ∀ b xs, H b = some (.tup xs) → H' b = some (.tup xs)
theorem Kt.of {H H' : Hp} (s : Same H H') : Kt H H' := fun b xs e => s b _ e
theorem Kt.trans {H H1 H2 : Hp} (x : Kt H H1) (y : Kt H1 H2) : Kt H H2 := fun b xs e => y b xs (x b xs e)
theorem kt_kp {a : Addr} {H H' : Hp} (w : We a H) (k : Kp a H H') : Kt H H' := fun b xs e => k b _ (fun z => by
  obtain ⟨x, y, c, h⟩ := w
  rw [z, h] at e; cases e) e
theorem kt_upd {L : Addr} {H : Hp} {ys : List V} {o : HO} (h : H L = some (.lst ys)) : Kt H (upd H L o) := fun b xs e => by
  rw [upd_ne (fun z => by rw [z, h] at e; cases e)]; exact e
def Ro (H : Hp) (v : V) (r : List Int) : Prop := ∃ p, v = .ref p ∧ H p = some (.tup (r.map V.int))
theorem Ro.kt {H H' : Hp} {v : V} {r : List Int} (k : Kt H H') (h : Ro H v r) : Ro H' v r := by
  obtain ⟨p, e, f⟩ := h
  exact ⟨p, e, k _ _ f⟩
def RoA (H : Hp) (xs : List V) (rs : List (List Int)) : Prop := xs.length = rs.length ∧ ∀ (i : Nat) v, xs[i]? = some v → ∃ r, rs[i]? = some r ∧ Ro H v r
theorem RoA.kt {H H' : Hp} {v : List V} {r : List (List Int)} (k : Kt H H') (h : RoA H v r) : RoA H' v r :=
  ⟨h.1, fun i v e => let ⟨r, e1, e2⟩ := h.2 i v e; ⟨r, e1, e2.kt k⟩⟩
def Po (H : Hp) (v : V) (p : List (List Int)) : Prop := ∃ q xs, v = .ref q ∧ H q = some (.tup xs) ∧ RoA H xs p
theorem Po.kt {H H' : Hp} {v : V} {r : List (List Int)} (k : Kt H H') (h : Po H v r) : Po H' v r := by
  obtain ⟨q, xs, e, f, g⟩ := h
  exact ⟨q, xs, e, k _ _ f, g.kt k⟩
theorem RoA.nil (H : Hp) : RoA H [] [] := ⟨rfl, fun i v e => by simp at e⟩
theorem RoA.snoc {H : Hp} {xs : List V} {rs : List (List Int)} {v : V} {r : List Int} (h : RoA H xs rs) (g : Ro H v r) : RoA H (xs ++ [v]) (rs ++ [r]) := by
  obtain ⟨h1, h2⟩ := h
  refine ⟨by simp [h1], fun i u e => ?_⟩
  rcases Nat.lt_trichotomy i xs.length with c | c | c
  · rw [List.getElem?_append_left c] at e
    obtain ⟨r', e1, e2⟩ := h2 i u e
    exact ⟨r', by rw [List.getElem?_append_left (by omega)]; exact e1, e2⟩
  · subst c
    rw [List.getElem?_append_right (Nat.le_refl _), Nat.sub_self] at e
    cases e
    refine ⟨r, ?_, g⟩
    rw [h1, List.getElem?_append_right (Nat.le_refl _), Nat.sub_self]
    rfl
  · rw [List.getElem?_eq_none (by simp; omega)] at e
    cases e
theorem RoA.take {H : Hp} {xs : List V} {rs : List (List Int)} (k : Nat) (h : RoA H xs rs) : RoA H (xs.take k) (rs.take k) := by
  refine ⟨by rw [List.length_take, List.length_take, h.1], fun i v e => ?_⟩
  rw [List.getElem?_take] at e ⊢
  split at e
  · rw [if_pos ‹_›]; exact h.2 i v e
  · cases e
theorem RoA.set {H : Hp} {xs : List V} {rs : List (List Int)} {v : V} {r : List Int} (k : Nat) (h : RoA H xs rs) (g : Ro H v r) : RoA H (xs.set k v) (rs.set k r) := by
  refine ⟨by rw [List.length_set, List.length_set, h.1], fun i u e => ?_⟩
  rw [List.getElem?_set] at e ⊢
  rw [← h.1]
  split at e
  · rw [if_pos ‹_›]
    split at e
    · rw [if_pos ‹_›]; cases e; exact ⟨r, rfl, g⟩
    · cases e
  · rw [if_neg ‹_›]; exact h.2 i u e
theorem RoA.get {H : Hp} {xs : List V} {rs : List (List Int)} {k : Nat} (h : RoA H xs rs) (hk : k < rs.length) : ∃ v, xs[k]? = some v ∧ Ro H v rs[k] := by
  have hx : k < xs.length := by rw [h.1]; exact hk
  obtain ⟨r, e1, e2⟩ := h.2 k xs[k] (List.getElem?_eq_getElem hx)
  rw [List.getElem?_eq_getElem hk] at e1
  cases e1
  exact ⟨_, List.getElem?_eq_getElem hx, e2⟩
/-! as data -/
def rowD (ns : List Int) : PyData := .tuple (ns.map PyData.int)
def polyD (p : List (List Int)) : PyData := .tuple (p.map rowD)
theorem da_ints (a : Addr) (H : Hp) : ∀ ns : List Int, DaAll a H (ns.map V.int) (ns.map PyData.int)
  | [] => .nil
  | n :: ns => .cons (.int n) (da_ints a H ns)
theorem We.nt {a p : Addr} {H : Hp} {xs : List V} (w : We a H) (h : H p = some (.tup xs)) : p ≠ a := fun z => by
  obtain ⟨x, y, c, e⟩ := w
  rw [z, e] at h; cases h
theorem da_row {a : Addr} {H : Hp} {v : V} {r : List Int} (w : We a H) (h : Ro H v r) : Da a H v (rowD r) := by
  obtain ⟨p, rfl, e⟩ := h
  exact .tup (We.nt w e) e (da_ints a H r)
theorem das_rows {a : Addr} {H : Hp} (w : We a H) : ∀ {xs : List V} {rs : List (List Int)}, RoA H xs rs → DaAll a H xs (rs.map rowD)
  | [], [], _ => .nil
  | [], r :: rs, h => by have := h.1; simp at this
  | x :: xs, [], h => by have := h.1; simp at this
  | x :: xs, r :: rs, h => by
    obtain ⟨r', e1, e2⟩ := h.2 0 x rfl
    cases e1
    refine .cons (da_row w e2) (das_rows w ⟨by have := h.1; simpa using this, fun i v e => ?_⟩)
    obtain ⟨r', e1, e2⟩ := h.2 (i + 1) v (by simpa using e)
    exact ⟨r', by simpa using e1, e2⟩
theorem da_poly {a : Addr} {H : Hp} {v : V} {p : List (List Int)} (w : We a H) (h : Po H v p) : Da a H v (polyD p) := by
  obtain ⟨q, xs, rfl, e, g⟩ := h
  exact .tup (We.nt w e) e (das_rows w g)
theorem nice_row (ns : List Int) : Nice 1 (rowD ns) := nice_tup fun d hd => by
  obtain ⟨i, _, rfl⟩ := List.mem_map.mp hd
  exact nice_int i
theorem nice_poly (p : List (List Int)) : Nice 2 (polyD p) := nice_tup fun d hd => by
  obtain ⟨i, _, rfl⟩ := List.mem_map.mp hd
  exact nice_row i
theorem zD_int (c : Int) : zD (.int c) = (c == 0) := by
  unfold zD
  simp [PyData.eqv]
theorem zD_row (r : List Int) : zD (rowD r) = r.isEmpty := by
  unfold zD rowD
  cases r <;> simp [PyData.eqv, PyData.eqvAll]
theorem rowB_ok {r : List Int} (h : okR r) : rowB (rowD r) = true := by
  unfold rowD rowB
  rw [Bool.and_eq_true]
  refine ⟨List.all_eq_true.mpr fun b hb => ?_, ?_⟩
  · rw [List.map_map] at hb
    obtain ⟨i, _, rfl⟩ := List.mem_map.mp hb
    rfl
  · unfold lastD
    rw [List.getLast?_map]
    cases e : r.getLast? with
    | none => rfl
    | some c => simpa [PyData.eqv] using h c e
theorem polyB_ok {p : List (List Int)} (h : okP p) : polyB (polyD p) = true := by
  unfold polyD polyB
  rw [Bool.and_eq_true]
  refine ⟨List.all_eq_true.mpr fun b hb => ?_, ?_⟩
  · rw [List.map_map] at hb
    obtain ⟨r, hr, rfl⟩ := List.mem_map.mp hb
    exact rowB_ok (h.1 r hr)
  · unfold lastD
    rw [List.getLast?_map]
    cases e : p.getLast? with
    | none => rfl
    | some r =>
      have := h.2 r e
      cases r with
      | nil => exact absurd rfl this
      | cons _ _ => simp [rowD, PyData.eqv, PyData.eqvAll]
theorem sm_row {n : Nat} {r : List Int} (h : r.length ≤ n) : Sm 1 n (rowD r) := sm_tup (by rw [List.length_map]; exact h) fun d hd => by
  obtain ⟨i, _, rfl⟩ := List.mem_map.mp hd
  exact sm_int _ _ i
theorem sm_poly {n b : Nat} {p : List (List Int)} (h : Bd n b p) : Sm 2 n (polyD p) := sm_tup (by rw [List.length_map]; exact h.1) fun d hd => by
  obtain ⟨r, hr, rfl⟩ := List.mem_map.mp hd
  exact sm_row (h.2 r hr).1
/-! trims -/
/-- a list of ints, a list of rows: without its last zeros -/
def spTrimI : Sp := fun vs H Q _ => ∃ p l, vs = [.ref p] ∧ H p = some (.lst (l.map V.int)) ∧ ∀ v H', Same H H' → Ro H' v (trimI l) → Q v H'
def spTrimP : Sp := fun vs H Q _ => ∃ p xs rs, vs = [.ref p] ∧ H p = some (.lst xs) ∧ RoA H xs rs ∧ (∃ a, We a H) ∧ ∀ v H', Same H H' → Po H' v (trimP rs) → Q v H'
theorem trim_int (vs : List V) (H : Hp) (Q : VK) (E : XK) (h : spTrimI vs H Q E) : spTrim vs H Q E := by
  obtain ⟨p, l, rfl, hp, q⟩ := h
  refine ⟨0, p, _, _, rfl, hp, da_ints 0 H l, fun d hd => ?_, fun k t H' hk hz hb s n e => q _ H' s ⟨t, rfl, ?_⟩⟩
  · obtain ⟨i, _, rfl⟩ := List.mem_map.mp hd
    exact (nice_int i).up (by decide)
  · rw [e, ← List.map_take]
    congr 3
    refine (trimBy_take _ l k (by simpa using hk) (fun i c hi ec => ?_) ?_).symm
    · have := hz i (.int c) hi (by rw [List.getElem?_map, ec]; rfl)
      rwa [zD_int] at this
    · rcases hb with hb | ⟨d, e1, e2⟩
      · exact .inl hb
      · rw [List.getElem?_map] at e1
        cases ec : l[k - 1]? with
        | none => rw [ec] at e1; cases e1
        | some c =>
          rw [ec] at e1; cases e1
          rw [zD_int] at e2
          exact .inr ⟨c, rfl, e2⟩
theorem trim_rows (vs : List V) (H : Hp) (Q : VK) (E : XK) (h : spTrimP vs H Q E) : spTrim vs H Q E := by
  obtain ⟨p, xs, rs, rfl, hp, hr, ⟨a, w⟩, q⟩ := h
  refine ⟨a, p, _, _, rfl, hp, das_rows w hr, fun d hd => ?_, fun k t H' hk hz hb s n e => q _ H' s ?_⟩
  · obtain ⟨i, _, rfl⟩ := List.mem_map.mp hd
    exact (nice_row i).up (by decide)
  · have : trimP rs = rs.take k := by
      refine trimBy_take _ rs k (by rw [← hr.1]; exact hk) (fun i c hi ec => ?_) ?_
      · have := hz i (rowD c) hi (by rw [List.getElem?_map, ec]; rfl)
        rwa [zD_row] at this
      · rcases hb with hb | ⟨d, e1, e2⟩
        · exact .inl hb
        · rw [List.getElem?_map] at e1
          cases ec : rs[k - 1]? with
          | none => rw [ec] at e1; cases e1
          | some c =>
            rw [ec] at e1; cases e1
            rw [zD_row] at e2
            exact .inr ⟨c, rfl, e2⟩
    rw [this]
    exact ⟨t, _, rfl, e, (hr.kt (Kt.of s)).take k⟩
end K44R

set_option Elab.async false
set_option linter.all false
set_option maxRecDepth 100000
set_option maxHeartbeats 4000000
local macro_rules | `(tactic| walk_at "rd") => `(tactic| dsimp only [Evl.tCut, L2.tSeq, L2.tNext, L2.tRet, L2.tRetN, L2.tAsg, L2.gName, L2.tIfS, L2.tDrop, L2.tCons, L2.tNil, L2.tC, L2.tVar, L2.tCB, L2.tAndV, L2.tOrV, L2.tNotV, L2.tB, L2.tTest, L2.tOp, L2.tUn, L2.tNot, L2.tAnd, L2.tOr, L2.tIf, L2.tCall, L2.tTup, L2.tLst, L2.tNotT, L2.tYes, L2.gTup, L2.gCons, L2.gNil, L2.gSub, L2.tBM0, L2.tBM, L2.tWhile, L2.tFor, L2.iRng1, L2.iRng2, L2.tAugS, Tw.iEnumT, L2.tCKw, L2.tAug, L2.ipI, RT.iRevA, L2.tPar, L2.tPar3, L2.tSl, L2.tNoPart, L2.tPart, Tw.tRevT])
namespace K44R
open PySem PySem.Spec PyProof.Rows L2 Tw
/-- a fraction in memory -/
def Pr (H : Hp) (v : V) (a b : Int) : Prop := ∃ p, v = .ref p ∧ H p = some (.tup [.int a, .int b])
theorem Pr.kt {H H' : Hp} {v : V} {a b : Int} (k : Kt H H') (h : Pr H v a b) : Pr H' v a b := by
  obtain ⟨p, e, f⟩ := h
  exact ⟨p, e, k _ _ f⟩
theorem Pr.ix0 {K : PySem.W.Frag} {H : Hp} {v : V} {a b : Int} {Q : VK} (h : Pr H v a b) (q : Q (.int a) H) : rIxT K v (.int 0) H Q := by
  obtain ⟨p, rfl, f⟩ := h
  exact ⟨p, _, 0, .int a, rfl, rfl, SqT.of f, rfl, q⟩
theorem Pr.ix1 {K : PySem.W.Frag} {H : Hp} {v : V} {a b : Int} {Q : VK} (h : Pr H v a b) (q : Q (.int b) H) : rIxT K v (.int 1) H Q := by
  obtain ⟨p, rfl, f⟩ := h
  exact ⟨p, _, 1, .int b, rfl, rfl, SqT.of f, rfl, q⟩
def spCommon : Sp := fun vs H Q _ => ∃ i j : Int, vs = [.int i, .int j] ∧ ∀ H', Same H H' → Q (.int (Nat.gcd i.natAbs j.natAbs : Nat)) H'
def spLean : Sp := fun vs H Q _ => ∃ i j : Int, vs = [.int i, .int j] ∧ 0 < j ∧ j < 1073741824 ∧ ∀ v a b H', Same H H' → Pr H' v a b → Lo a b i j → Q v H'
def spAdd : Sp := fun vs H Q _ => ∃ u v a b c, vs = [u, v] ∧ Pr H u a b ∧ Pr H v c 1 ∧ 0 < b ∧ b < 1073741824 ∧ c.natAbs < 2 ^ 64 ∧ ∀ v x y H', Same H H' → Pr H' v x y → Lo x y (a * 1 + c * b) (b * 1) → Q v H'
def spMul : Sp := fun vs H Q _ => ∃ u v a b n m, vs = [u, v] ∧ Pr H u a b ∧ Pr H v n m ∧ 0 < b * m ∧ b * m < 1073741824 ∧ n.natAbs < 2 ^ 64 ∧ m.natAbs < 2 ^ 64 ∧ ∀ v x y H', Same H H' → Pr H' v x y → Lo x y (a * n) (b * m) → Q v H'
section
variable {P : Program} {w : World} {K : PySem.W.Frag} {mg : Str → Option Value} {base : Heap}
theorem gcd_turn {f r : Nat} : Nat.gcd r (f % r) = Nat.gcd f r := by
  rw [Nat.gcd_comm f r, Nat.gcd_rec r f, Nat.gcd_comm]
theorem scCommon : FnScope ["_law_one", "_law_two", "_law_far", "_law_rest"] ["_law_one", "_law_two"] (defScope sCommon) := ⟨rfl, rfl, rfl, by decide +kernel, rfl, by decide +kernel, by decide +kernel⟩
theorem ok_common (D : Def K mg "_law_share" sCommon ["_law_one", "_law_two"]) (nb : Nb mg) : Cal P w K mg base "_law_share" 1 ["_law_one", "_law_two"] spCommon := by
  refine D.ok scCommon (fun vs H Q E h => ?_) (fun f cdv A out s H vs Q E hr h => ?_)
  · obtain ⟨i, j, rfl, _⟩ := h; rfl
  obtain ⟨i, j, rfl, q⟩ := h
  refine ⟨_, pss_cons (ps_par (i := 2) (j := 3) rfl scCommon.nd rfl rfl (by decide) rfl rfl (pa_cons (pe_callB (id := "abs") call_abs (by rfl) nb.abs (by decide +kernel) (pa_cons (pv 0) pa_nil)) (pa_cons (pe_callB (id := "abs") call_abs (by rfl) nb.abs (by decide +kernel) (pa_cons (pv 1) pa_nil)) pa_nil)) rfl)
    (pss_cons (ps_while PassesOwn.never (pt_cmpR op_ne (pv 3) pe_int (nomark _))
      (pss_one (ps_par (i := 2) (j := 3) rfl scCommon.nd rfl rfl (by decide) rfl rfl (pa_cons (pv 3) (pa_cons (pe_op op_mod (pe_callTy (T := "int") call_int1 (by rfl) nb.int (by decide +kernel) (pa_cons (pv 2) pa_nil)) (pv 3)) pa_nil)) rfl)))
    (pss_one (ps_ret (pv 2)))), ?_⟩
  walk_at "rd"
  refine ⟨.int i, rfl, i, rfl, .int j, rfl, j, rfl, _, _, rfl, ?_⟩
  have ei : (if i < 0 then -i else i) = (i.natAbs : Int) := by split <;> omega
  have ej : (if j < 0 then -j else j) = (j.natAbs : Int) := by split <;> omega
  refine ⟨fun m σ H' => ∃ f r : Nat, m = r ∧ σ = [some (.int i), some (.int j), some (.int (f : Int)), some (.int (r : Int))] ∧ Same H H' ∧ Nat.gcd f r = Nat.gcd i.natAbs j.natAbs, ⟨j.natAbs, i.natAbs, j.natAbs, rfl, by rw [ei, ej]; rfl, Same.refl H, rfl⟩, ?_⟩
  rintro m σ H1 ⟨f, r, rfl, rfl, s1, g⟩
  refine ⟨.int m, rfl, rfl, _, rfl, ?_⟩
  rw [dec_int]
  by_cases c : m = 0
  · subst c
    refine iteF ⟨_, rfl, ?_⟩
    rw [Nat.gcd_zero_right] at g
    rw [g]
    exact q _ s1
  · rw [show ((m : Int) == 0) = false from beq_eq_false_iff_ne.mpr (by omega)]
    refine iteT ⟨fun σ' H' => ∃ m' f : Nat, m' < m ∧ σ' = [some (.int i), some (.int j), some (.int (f : Int)), some (.int (m' : Int))] ∧ Same H H' ∧ Nat.gcd f m' = Nat.gcd i.natAbs j.natAbs, fun σ' H' ⟨m', f', a1, a2, a3, a4⟩ => ⟨m', a1, f', m', rfl, a2, a3, a4⟩, ?_⟩
    refine ⟨.int m, rfl, .int f, rfl, .inl ⟨f, rfl, .int m, rfl, f, m, rfl, rfl, by show (0 : Int) < _; omega, _, _, rfl, ?_⟩⟩
    exact ⟨f % m, m, Nat.mod_lt _ (by omega), rfl, s1, by rw [gcd_turn]; exact g⟩

theorem scLean : FnScope ["_law_top", "_law_low", "_law_by"] ["_law_top", "_law_low"] (defScope sLean) := ⟨rfl, rfl, rfl, by decide +kernel, rfl, by decide +kernel, by decide +kernel⟩
theorem ok_lean (D : Def K mg "_law_lean" sLean ["_law_top", "_law_low"]) (c1 : Cal P w K mg base "_law_share" 1 ["_law_one", "_law_two"] spCommon) : Cal P w K mg base "_law_lean" 2 ["_law_top", "_law_low"] spLean := by
  refine D.ok scLean (fun vs H Q E h => ?_) (fun f cdv A out s H vs Q E hr h => ?_)
  · obtain ⟨i, j, rfl, _⟩ := h; rfl
  obtain ⟨i, j, rfl, j0, j1, q⟩ := h
  refine ⟨_, pss_cons (ps_set (i := 2) scLean.nd rfl (Or.inl rfl) (pe_ifExp (pt_cmpR op_gt (pv 1) pe_int (nomark _)) (pe_cal c1 hr (Nat.le_refl 1) (by rfl) (pa_cons (pv 0) (pa_cons (pv 1) pa_nil)))
      (pe_op op_sub pe_int (pe_cal c1 hr (Nat.le_refl 1) (by rfl) (pa_cons (pv 0) (pa_cons (pv 1) pa_nil))))))
    (pss_one (ps_ret (pe_tup (pa_cons (pe_op op_fdiv (pv 0) (pv 2)) (pa_cons (pe_op op_fdiv (pv 1) (pv 2)) pa_nil))))), ?_⟩
  walk_at "rd"
  refine ⟨.int j, rfl, j, 0, rfl, rfl, _, rfl, ite2 (fun c => ?_) (fun c => absurd (decide_eq_true j0) c)⟩
  refine ⟨.int i, rfl, .int j, rfl, i, j, rfl, fun H1 s1 => ?_⟩
  have g0 : 0 < Nat.gcd i.natAbs j.natAbs := Nat.gcd_pos_of_pos_right _ (by omega)
  have g1 : Nat.gcd i.natAbs j.natAbs ≤ j.natAbs := Nat.gcd_le_right _ (by omega)
  refine ⟨.int i, rfl, _, rfl, i, _, rfl, rfl, ⟨by omega, by omega⟩, .int j, rfl, _, rfl, j, _, rfl, rfl, ⟨by omega, by omega⟩, sz (by simp), fun t nt => ?_⟩
  exact q _ _ _ _ (s1.trans (same_new nt)) ⟨t, rfl, upd_same⟩ (lo_lean j0)
end
end K44R

set_option Elab.async false
set_option linter.all false
set_option maxRecDepth 100000
set_option maxHeartbeats 4000000
local macro_rules | `(tactic| walk_at "rd") => `(tactic| dsimp only [Evl.tCut, L2.tSeq, L2.tNext, L2.tRet, L2.tRetN, L2.tAsg, L2.gName, L2.tIfS, L2.tDrop, L2.tCons, L2.tNil, L2.tC, L2.tVar, L2.tCB, L2.tAndV, L2.tOrV, L2.tNotV, L2.tB, L2.tTest, L2.tOp, L2.tUn, L2.tNot, L2.tAnd, L2.tOr, L2.tIf, L2.tCall, L2.tTup, L2.tLst, L2.tNotT, L2.tYes, L2.gTup, L2.gCons, L2.gNil, L2.gSub, L2.tBM0, L2.tBM, L2.tWhile, L2.tFor, L2.iRng1, L2.iRng2, L2.tAugS, Tw.iEnumT, L2.tCKw, L2.tAug, L2.ipI, RT.iRevA, L2.tPar, L2.tPar3, L2.tSl, L2.tNoPart, L2.tPart, Tw.tRevT])
namespace K44R
open PySem PySem.Spec PyProof.Rows L2 Tw
/-! lists of values that stand for things -/
section
variable {α β : Type}
def RelA (R : Hp → V → α → Prop) (H : Hp) (xs : List V) (rs : List α) : Prop := xs.length = rs.length ∧ ∀ (i : Nat) v, xs[i]? = some v → ∃ r, rs[i]? = some r ∧ R H v r
def Stable (R : Hp → V → α → Prop) : Prop := ∀ H H' v r, Kt H H' → R H v r → R H' v r
theorem RelA.kt {R : Hp → V → α → Prop} (st : Stable R) {H H' : Hp} {xs : List V} {rs : List α} (k : Kt H H') (h : RelA R H xs rs) : RelA R H' xs rs :=
  ⟨h.1, fun i v e => let ⟨r, e1, e2⟩ := h.2 i v e; ⟨r, e1, st _ _ _ _ k e2⟩⟩
theorem RelA.snoc {R : Hp → V → α → Prop} {H : Hp} {xs : List V} {rs : List α} {v : V} {r : α} (h : RelA R H xs rs) (g : R H v r) : RelA R H (xs ++ [v]) (rs ++ [r]) := by
  obtain ⟨h1, h2⟩ := h
  refine ⟨by simp [h1], fun i u e => ?_⟩
  rcases Nat.lt_trichotomy i xs.length with c | c | c
  · rw [List.getElem?_append_left c] at e
    obtain ⟨r', e1, e2⟩ := h2 i u e
    exact ⟨r', by rw [List.getElem?_append_left (by omega)]; exact e1, e2⟩
  · subst c
    rw [List.getElem?_append_right (Nat.le_refl _), Nat.sub_self] at e
    cases e
    refine ⟨r, ?_, g⟩
    rw [h1, List.getElem?_append_right (Nat.le_refl _), Nat.sub_self]
    rfl
  · rw [List.getElem?_eq_none (by simp; omega)] at e
    cases e
theorem RelA.eq_map {f : α → V} {H : Hp} : ∀ {xs : List V} {rs : List α}, RelA (fun _ v r => v = f r) H xs rs → xs = rs.map f
  | [], [], _ => rfl
  | [], r :: rs, h => by have := h.1; simp at this
  | x :: xs, [], h => by have := h.1; simp at this
  | x :: xs, r :: rs, h => by
    obtain ⟨r', e1, e2⟩ := h.2 0 x rfl
    cases e1
    rw [List.map_cons, e2, RelA.eq_map (rs := rs) (xs := xs) (H := H) ⟨by have := h.1; simpa using this, fun i v e => by
      obtain ⟨r', e1, e2⟩ := h.2 (i + 1) v (by simpa using e)
      exact ⟨r', by simpa using e1, e2⟩⟩]
theorem RelA.of_map {f : α → V} {H : Hp} (rs : List α) : RelA (fun _ v r => v = f r) H (rs.map f) rs := ⟨by simp, fun i v e => by
  rw [List.getElem?_map] at e
  cases er : rs[i]? with
  | none => rw [er] at e; cases e
  | some r => rw [er] at e; cases e; exact ⟨r, rfl, rfl⟩⟩
theorem RelA.map {R : Hp → V → α → Prop} {H : Hp} {xs : List V} {rs : List α} (g : α → β) (S : Hp → V → β → Prop) (k : ∀ v r, r ∈ rs → R H v r → S H v (g r)) (h : RelA R H xs rs) : RelA S H xs (rs.map g) :=
  ⟨by rw [List.length_map]; exact h.1, fun i v e => by
    obtain ⟨r, e1, e2⟩ := h.2 i v e
    exact ⟨g r, by rw [List.getElem?_map, e1]; rfl, k v r (List.mem_of_getElem? e1) e2⟩⟩
theorem stable_eq (f : α → V) : Stable (fun _ v r => v = f r) := fun _ _ _ _ _ h => h
theorem stable_ro : Stable Ro := fun _ _ _ _ k h => h.kt k
variable {K : PySem.W.Frag} {te : TE} {i j : Nat} {elt : TE} {vs : List Nat} {σ : L2.St} {H : Hp} {Q : VK} {p : Addr} {xs : List V} {rs : List α} {S : Hp → V → α → Prop} {R : Hp → V → β → Prop} {g : α → β}
theorem rel_step {H1 H2 : Hp} {D : Addr} {m : Nat} {ys : List V} {y : V} {r : α} (sR : Stable R) (nD : H D = none) (hD : H1 D = some (.lst ys)) (s1 : Same H H1) (s2 : Same H1 H2) (er : rs[m]? = some r) (hr : RelA R H1 ys ((rs.take m).map g)) (hy : R H2 y (g r)) :
    H2 D = some (.lst ys) ∧ ys.length = m ∧ Same H (upd H2 D (.lst (ys ++ [y]))) ∧ upd H2 D (.lst (ys ++ [y])) D = some (.lst (ys ++ [y])) ∧ RelA R (upd H2 D (.lst (ys ++ [y]))) (ys ++ [y]) ((rs.take (m + 1)).map g) := by
  have e2 : H2 D = some (.lst ys) := s2 _ _ hD
  have hm : m < rs.length := (List.getElem?_eq_some_iff.mp er).1
  refine ⟨e2, ?_, same_upd (s1.trans s2) nD, upd_same, ?_⟩
  · rw [hr.1, List.length_map, List.length_take]; omega
  · rw [List.take_add_one, er, List.map_append]
    exact ((hr.kt sR (Kt.of s2)).snoc hy).kt sR (kt_upd e2)
/-- [.. for x in t], t a tuple of things -/
theorem lc_relT (sS : Stable S) (sR : Stable R) (hv : σ[i]? = some (some (.ref p))) (ht : H p = some (.tup xs)) (hd : RelA S H xs rs) (hn : rs.length < 100000)
    (hw : ∀ x, wipe ((wipe σ vs).set j (some x)) vs = wipe σ vs)
    (he : ∀ x r H1, r ∈ rs → Same H H1 → S H1 x r → ∀ Z : VK, (∀ y H2, Same H1 H2 → R H2 y (g r) → Z y H2) → elt ((wipe σ vs).set j (some x)) H1 Z)
    (q : ∀ D ys H', Same H H' → H D = none → H' D = some (.lst ys) → RelA R H' ys (rs.map g) → Q (.ref D) H') : tLc (iTup K (tVar i)) (gName j) tYes elt vs σ H Q := by
  refine ⟨.ref p, hv, p, rfl, ⟨xs, SqT.of ht⟩, fun D hD => ?_⟩
  refine lc_tup (xs := xs) (fun m H' => Same H H' ∧ ∃ ys, H' D = some (.lst ys) ∧ RelA R H' ys ((rs.take m).map g)) ⟨same_new hD, [], upd_same, rfl, fun i v e => by simp at e⟩ (fun m H' _ h => SqT.of (h.1 _ _ ht)) (fun m x H1 hx h => ?_) (fun H' h => ?_)
  · obtain ⟨h1, ys, h2, h3⟩ := h
    obtain ⟨r, e1, e2⟩ := hd.2 m x hx
    have hm : m < xs.length := (List.getElem?_eq_some_iff.mp hx).1
    have hx2 := hd.1
    refine ⟨hw x, ?_⟩
    unfold tYes
    simp only [if_true]
    refine he x r H1 (List.mem_of_getElem? e1) h1 (sS _ _ _ _ (Kt.of h1) e2) _ fun y H2 s2 ry => ?_
    obtain ⟨a1, a2, a3, a4, a5⟩ := rel_step sR hD h2 h1 s2 e1 h3 ry
    exact ⟨ys, a1, lt_line (by omega), a3, _, a4, a5⟩
  · obtain ⟨h1, ys, h2, h3⟩ := h
    rw [hd.1, List.take_length] at h3
    exact q D ys H' h1 hD h2 h3
/-- .. t a list -/
theorem lc_relL (sS : Stable S) (sR : Stable R) (hv : σ[i]? = some (some (.ref p))) (ht : H p = some (.lst xs)) (hd : RelA S H xs rs) (hn : rs.length < 100000)
    (hw : ∀ x, wipe ((wipe σ vs).set j (some x)) vs = wipe σ vs)
    (he : ∀ x r H1, r ∈ rs → Same H H1 → S H1 x r → ∀ Z : VK, (∀ y H2, Same H1 H2 → R H2 y (g r) → Z y H2) → elt ((wipe σ vs).set j (some x)) H1 Z)
    (q : ∀ D ys H', Same H H' → H D = none → H' D = some (.lst ys) → RelA R H' ys (rs.map g) → Q (.ref D) H') : tLc (iList K (tVar i)) (gName j) tYes elt vs σ H Q := by
  refine ⟨.ref p, hv, p, rfl, ⟨xs, SqL.of ht⟩, fun D hD => ?_⟩
  refine lc_list (xs := xs) (fun m H' => Same H H' ∧ ∃ ys, H' D = some (.lst ys) ∧ RelA R H' ys ((rs.take m).map g)) ⟨same_new hD, [], upd_same, rfl, fun i v e => by simp at e⟩ (fun m H' _ h => SqL.of (h.1 _ _ ht)) (fun m x H1 hx h => ?_) (fun H' h => ?_)
  · obtain ⟨h1, ys, h2, h3⟩ := h
    obtain ⟨r, e1, e2⟩ := hd.2 m x hx
    have hm : m < xs.length := (List.getElem?_eq_some_iff.mp hx).1
    have hx2 := hd.1
    refine ⟨hw x, ?_⟩
    unfold tYes
    simp only [if_true]
    refine he x r H1 (List.mem_of_getElem? e1) h1 (sS _ _ _ _ (Kt.of h1) e2) _ fun y H2 s2 ry => ?_
    obtain ⟨a1, a2, a3, a4, a5⟩ := rel_step sR hD h2 h1 s2 e1 h3 ry
    exact ⟨ys, a1, lt_line (by omega), a3, _, a4, a5⟩
  · obtain ⟨h1, ys, h2, h3⟩ := h
    rw [hd.1, List.take_length] at h3
    exact q D ys H' h1 hD h2 h3
end
/-! a small fraction; a row's worth at one -/
theorem drop_top {r : List Int} {k : Nat} (h : k < r.length) : r.drop (r.length - (k + 1)) = r[r.length - 1 - k] :: r.drop (r.length - k) := by
  have e : r.length - (k + 1) = r.length - 1 - k := by omega
  rw [e, List.drop_eq_getElem_cons (by omega)]
  congr 2
  omega
end K44R

set_option Elab.async false
set_option linter.all false
set_option maxRecDepth 100000
set_option maxHeartbeats 4000000
local macro_rules | `(tactic| walk_at "rd") => `(tactic| dsimp only [Evl.tCut, L2.tSeq, L2.tNext, L2.tRet, L2.tRetN, L2.tAsg, L2.gName, L2.tIfS, L2.tDrop, L2.tCons, L2.tNil, L2.tC, L2.tVar, L2.tCB, L2.tAndV, L2.tOrV, L2.tNotV, L2.tB, L2.tTest, L2.tOp, L2.tUn, L2.tNot, L2.tAnd, L2.tOr, L2.tIf, L2.tCall, L2.tTup, L2.tLst, L2.tNotT, L2.tYes, L2.gTup, L2.gCons, L2.gNil, L2.gSub, L2.tBM0, L2.tBM, L2.tWhile, L2.tFor, L2.iRng1, L2.iRng2, L2.tAugS, Tw.iEnumT, L2.tCKw, L2.tAug, L2.ipI, RT.iRevA, L2.tPar, L2.tPar3, L2.tSl, L2.tNoPart, L2.tPart, Tw.tRevT])
namespace K44R
open PySem PySem.Spec PyProof.Rows L2 Tw
def spTurned : Sp := fun vs H Q _ => ∃ u p b, vs = [u] ∧ Po H u p ∧ (∃ a, We a H) ∧ Bd 8 b p ∧ ∀ v H', Same H H' → Po H' v (exch p) → Q v H'
def rLn (K : PySem.W.Frag) : List V → Hp → VK → Prop := fun xs H Q => ∃ p ys, xs = [.ref p] ∧ (SqL K H p ys ∨ SqT K H p ys) ∧ Q (.int ys.length) H
theorem wipeJ (σ : L2.St) (j : Nat) (x : Option V) : wipe ((wipe σ [j]).set j x) [j] = wipe σ [j] := by
  show ((σ.set j none).set j x).set j none = σ.set j none
  rw [List.set_set, List.set_set]
section
variable {P : Program} {w : World} {K : PySem.W.Frag} {mg : Str → Option Value} {base : Heap}
end
end K44R

set_option linter.all false
set_option maxRecDepth 10000
/-! rows and polys by their numbers -/
namespace K44R
abbrev g (r : List Int) (k : Nat) : Int := r.getD k 0
def rw' (p : List (List Int)) (i : Nat) : List Int := p.getD i []
def co (p : List (List Int)) (i j : Nat) : Int := g (rw' p i) j
theorem g_none {r : List Int} {k : Nat} (h : r.length ≤ k) : g r k = 0 := by
  unfold g
  rw [List.getD_eq_getElem?_getD, List.getElem?_eq_none h]
  rfl
theorem g_some {r : List Int} {k : Nat} (h : k < r.length) : g r k = r[k] := by
  unfold g
  rw [List.getD_eq_getElem?_getD, List.getElem?_eq_getElem h]
  rfl
theorem rw_none {p : List (List Int)} {k : Nat} (h : p.length ≤ k) : rw' p k = [] := by
  unfold rw'
  rw [List.getD_eq_getElem?_getD, List.getElem?_eq_none h]
  rfl
theorem rw_some {p : List (List Int)} {k : Nat} (h : k < p.length) : rw' p k = p[k] := by
  unfold rw'
  rw [List.getD_eq_getElem?_getD, List.getElem?_eq_getElem h]
  rfl
theorem getD_trim {α : Type} (z : α → Bool) (d : α) (hz : ∀ a, z a = true → a = d) : ∀ (l : List α) (k : Nat), (trimBy z l).getD k d = l.getD k d
  | [], k => rfl
  | a :: l, k => by
    have ih := getD_trim z d hz l
    rw [trimBy]
    cases e : trimBy z l with
    | nil =>
      rw [e] at ih
      by_cases c : z a = true
      · rw [if_pos c]
        cases k with
        | zero => simp [hz a c]
        | succ k => simpa using ih k
      · rw [if_neg c]
        cases k with
        | zero => simp
        | succ k => simpa using ih k
    | cons b r =>
      rw [e] at ih
      cases k with
      | zero => simp
      | succ k => simpa using ih k
theorem g_trim (l : List Int) (k : Nat) : g (trimI l) k = g l k := getD_trim _ _ (fun a h => by simpa using h) l k
theorem rw_trim (p : List (List Int)) (k : Nat) : rw' (trimP p) k = rw' p k := getD_trim _ _ (fun a h => by simpa using h) p k
theorem getD_take {α : Type} (d : α) (l : List α) (n k : Nat) (h : ∀ i, n ≤ i → l.getD i d = d) : (l.take n).getD k d = l.getD k d := by
  rw [List.getD_eq_getElem?_getD, List.getElem?_take]
  split
  · rw [List.getD_eq_getElem?_getD]
  · rw [h k (by omega)]
    rfl
/-- a row is known by its numbers -/
theorem row_ext {r s : List Int} (hr : okR r) (hs : okR s) (h : ∀ k, g r k = g s k) : r = s := by
  have half : ∀ {r s : List Int}, okR s → (∀ k, g r k = g s k) → s.length ≤ r.length := fun {r s} hs h => by
    rcases Nat.lt_or_ge r.length s.length with c | c
    · exfalso
      have e : s.getLast? = some s[s.length - 1] := by rw [List.getLast?_eq_getElem?, List.getElem?_eq_getElem (by omega)]
      refine hs _ e ?_
      rw [← g_some (by omega), ← h, g_none (by omega)]
    · exact c
  have l : r.length = s.length := Nat.le_antisymm (half hr fun k => (h k).symm) (half hs h)
  refine List.ext_getElem l fun k h1 h2 => ?_
  rw [← g_some h1, ← g_some h2, h]
theorem okR_nil : okR [] := fun c h => by simp at h
theorem okR_rw {p : List (List Int)} (h : ∀ r ∈ p, okR r) (i : Nat) : okR (rw' p i) := by
  rcases Nat.lt_or_ge i p.length with c | c
  · rw [rw_some c]; exact h _ (List.getElem_mem _)
  · rw [rw_none c]; exact okR_nil
theorem poly_ext {p q : List (List Int)} (hp : okP p) (hq : okP q) (h : ∀ i j, co p i j = co q i j) : p = q := by
  have e : ∀ i, rw' p i = rw' q i := fun i => row_ext (okR_rw hp.1 i) (okR_rw hq.1 i) (h i)
  have half : ∀ {p q : List (List Int)}, okP q → (∀ i, rw' p i = rw' q i) → q.length ≤ p.length := fun {p q} hq h => by
    rcases Nat.lt_or_ge p.length q.length with c | c
    · exfalso
      have e : q.getLast? = some q[q.length - 1] := by rw [List.getLast?_eq_getElem?, List.getElem?_eq_getElem (by omega)]
      refine hq.2 _ e ?_
      rw [← rw_some (by omega), ← h, rw_none (by omega)]
    · exact c
  have l : p.length = q.length := Nat.le_antisymm (half hp fun k => (e k).symm) (half hq e)
  refine List.ext_getElem l fun k h1 h2 => ?_
  rw [← rw_some h1, ← rw_some h2, e]
/-! sums -/
def S : Nat → (Nat → Int) → Int
  | 0, _ => 0
  | n + 1, f => S n f + f n
theorem S_ext {f h : Nat → Int} : ∀ n, (∀ i, i < n → f i = h i) → S n f = S n h
  | 0, _ => rfl
  | n + 1, e => by rw [S, S, S_ext n fun i hi => e i (by omega), e n (by omega)]
theorem S_zero : ∀ n, S n (fun _ => 0) = 0
  | 0 => rfl
  | n + 1 => by rw [S, S_zero n]; rfl
theorem S_more {f : Nat → Int} {n m : Nat} (h : n ≤ m) (z : ∀ i, n ≤ i → f i = 0) : S m f = S n f := by
  induction m with
  | zero => have : n = 0 := by omega
            subst this; rfl
  | succ m ih =>
    rcases Nat.lt_or_ge m n with c | c
    · have : n = m + 1 := by omega
      subst this; rfl
    · rw [S, ih c, z m c, Int.add_zero]
theorem S_add {f h : Nat → Int} : ∀ n, S n (fun i => f i + h i) = S n f + S n h
  | 0 => rfl
  | n + 1 => by rw [S, S, S, S_add n]; omega
theorem S_mul {f : Nat → Int} (c : Int) : ∀ n, S n (fun i => c * f i) = c * S n f
  | 0 => by simp [S]
  | n + 1 => by rw [S, S, S_mul c n, Int.mul_add]
theorem S_shift {f : Nat → Int} : ∀ n, S (n + 1) f = f 0 + S n (fun i => f (i + 1))
  | 0 => by simp [S]
  | n + 1 => by
    rw [S, S_shift n, S]
    omega
theorem S_rev {f : Nat → Int} : ∀ n, S (n + 1) f = S (n + 1) (fun i => f (n - i))
  | 0 => rfl
  | n + 1 => by
    rw [S, S_rev n, S_shift (f := fun i => f (n + 1 - i))]
    have : S (n + 1) (fun i => f (n + 1 - (i + 1))) = S (n + 1) (fun i => f (n - i)) := S_ext _ fun i _ => by rw [Nat.add_sub_add_right]
    rw [this]
    show _ + f (n + 1) = f (n + 1 - 0) + _
    rw [Nat.sub_zero]
    omega
theorem S_comm {f : Nat → Nat → Int} (m : Nat) : ∀ n, S n (fun i => S m (fun j => f i j)) = S m (fun j => S n (fun i => f i j))
  | 0 => by simp only [S]; exact (S_zero m).symm
  | n + 1 => by
    rw [S, S_comm m n, ← S_add]
    rfl
/-- what two rows of numbers make, multiplied -/
def cv (f h : Nat → Int) (k : Nat) : Int := S (k + 1) fun i => f i * h (k - i)
theorem cv_comm (f h : Nat → Int) (k : Nat) : cv f h k = cv h f k := by
  unfold cv
  rw [S_rev]
  refine S_ext _ fun i hi => ?_
  rw [Nat.sub_sub_self (by omega), Int.mul_comm]
/-- the loops' sum -/
theorem cv_loop {f h : Nat → Int} {n : Nat} (z : ∀ i, n ≤ i → f i = 0) (k : Nat) : S n (fun a => if a ≤ k then f a * h (k - a) else 0) = cv f h k := by
  have e1 : S (max n (k + 1)) (fun a => if a ≤ k then f a * h (k - a) else 0) = S n (fun a => if a ≤ k then f a * h (k - a) else 0) := S_more (by omega) fun i hi => by
    rw [z i hi, Int.zero_mul]
    split <;> rfl
  have e2 : S (max n (k + 1)) (fun a => if a ≤ k then f a * h (k - a) else 0) = S (k + 1) (fun a => if a ≤ k then f a * h (k - a) else 0) := S_more (by omega) fun i hi => by
    rw [if_neg (by omega)]
  rw [← e1, e2]
  unfold cv
  exact S_ext _ fun i hi => by rw [if_pos (by omega)]
theorem cv_zero {h : Nat → Int} {f : Nat → Int} (z : ∀ i, f i = 0) (k : Nat) : cv f h k = 0 := by
  unfold cv
  rw [S_ext (h := fun _ => 0) _ fun i _ => by rw [z i, Int.zero_mul], S_zero]
theorem g_set {l : List Int} {n : Nat} {c : Int} (h : n < l.length) (k : Nat) : g (l.set n c) k = if k = n then c else g l k := by
  unfold g
  rw [List.getD_eq_getElem?_getD, List.getD_eq_getElem?_getD, List.getElem?_set]
  by_cases e : n = k
  · subst e
    rw [if_pos rfl, if_pos h, if_pos rfl]
    rfl
  · rw [if_neg e, if_neg (fun z => e z.symm)]
theorem rw_set {l : List (List Int)} {n : Nat} {c : List Int} (h : n < l.length) (k : Nat) : rw' (l.set n c) k = if k = n then c else rw' l k := by
  unfold rw'
  rw [List.getD_eq_getElem?_getD, List.getD_eq_getElem?_getD, List.getElem?_set]
  by_cases e : n = k
  · subst e
    rw [if_pos rfl, if_pos h, if_pos rfl]
    rfl
  · rw [if_neg e, if_neg (fun z => e z.symm)]
end K44R

set_option Elab.async false
set_option linter.all false
set_option maxRecDepth 100000
set_option maxHeartbeats 4000000
local macro_rules | `(tactic| walk_at "rd") => `(tactic| dsimp only [Evl.tCut, L2.tSeq, L2.tNext, L2.tRet, L2.tRetN, L2.tAsg, L2.gName, L2.tIfS, L2.tDrop, L2.tCons, L2.tNil, L2.tC, L2.tVar, L2.tCB, L2.tAndV, L2.tOrV, L2.tNotV, L2.tB, L2.tTest, L2.tOp, L2.tUn, L2.tNot, L2.tAnd, L2.tOr, L2.tIf, L2.tCall, L2.tTup, L2.tLst, L2.tNotT, L2.tYes, L2.gTup, L2.gCons, L2.gNil, L2.gSub, L2.tBM0, L2.tBM, L2.tWhile, L2.tFor, L2.iRng1, L2.iRng2, L2.tAugS, Tw.iEnumT, L2.tCKw, L2.tAug, L2.ipI, RT.iRevA, L2.tPar, L2.tPar3, L2.tSl, L2.tNoPart, L2.tPart, Tw.tRevT])
namespace K44R
open PySem PySem.Spec PyProof.Rows L2 Tw
def spFrac : Sp := fun vs H Q _ => ∃ v n m, vs = [v] ∧ Pr H v n m ∧ 0 < m ∧ Nat.gcd n.natAbs m.natAbs = 1 ∧ ∀ H', Same H H' → Q (.bl true) H'
def spPower : Sp := fun vs H Q _ => ∃ (m : Int) (k : Nat), vs = [.int m, .int (k : Int)] ∧ 0 < m ∧ m < 2 ^ 24 ∧ k ≤ 8 ∧ ∀ H', Same H H' → Q (.int (m ^ k)) H'
def spShared : Sp := fun vs H Q _ => ∃ p l, vs = [.ref p] ∧ H p = some (.lst (l.map V.int)) ∧ ∀ H', Same H H' → Q (.int (G 0 l : Nat)) H'
def spScaled : Sp := fun vs H Q _ => ∃ u r n m, vs = [u, .int n, .int m] ∧ Ro H u r ∧ n.natAbs < 2 ^ 24 ∧ 0 < m ∧ m < 2 ^ 24 ∧ r.length ≤ 8 ∧ (∀ c ∈ r, c.natAbs < 2 ^ 100) ∧ ∀ H', Same H H' → Q (.int (T n m r)) H'
/-- a loop over a tuple turned round, its body already read -/
theorem for_rev {K : PySem.W.Frag} {a : Addr} {xs : List V} {B : (L2.St → Hp → Prop) → V → L2.St → Hp → Prop} {nx : L2.St → Hp → Prop} {σ : L2.St} {H : Hp} (Pv : Nat → L2.St → Hp → Prop) (h0 : Pv 0 σ H)
    (hl : ∀ i σ' H', i ≤ xs.length → Pv i σ' H' → SqT K H' a xs)
    (hs : ∀ (i : Nat) x σ' H', i < xs.length → xs[xs.length - 1 - i]? = some x → Pv i σ' H' → B (Pv (i + 1)) x σ' H') (hd : ∀ σ' H', Pv xs.length σ' H' → nx σ' H') :
    ∃ W : Nat → Nat → L2.St → Hp → Prop, (∃ m, W 0 m σ H) ∧ ∀ i m σ H, W i m σ H →
      ((RT.ItvT K a xs.length).stop i H ∧ nx σ H) ∨ ((RT.ItvT K a xs.length).go i H ∧ ∃ N : L2.St → Hp → Prop, (∀ σ' H', N σ' H' → ∃ m', m' < m ∧ W (i + 1) m' σ' H') ∧ ∀ x H', (RT.ItvT K a xs.length).yld i H x H' → B N x σ H') := by
  refine ⟨fun i m σ H => m = xs.length - i ∧ i ≤ xs.length ∧ Pv i σ H, ⟨xs.length, by simp, Nat.zero_le _, h0⟩, ?_⟩
  rintro i m σ' H' ⟨rfl, hi, p⟩
  have ql := hl i σ' H' hi p
  by_cases c : i < xs.length
  · have hx : xs.length - 1 - i < xs.length := by omega
    refine Or.inr ⟨⟨c, xs, xs[xs.length - 1 - i], ql, List.getElem?_eq_getElem hx⟩, Pv (i + 1), fun σ2 H2 p2 => ⟨xs.length - (i + 1), by omega, rfl, c, p2⟩, fun x H2 y => ?_⟩
    obtain ⟨e1, e2⟩ := y
    subst e1
    exact hs i x σ' _ c (e2 xs ql) p
  · have e : i = xs.length := by omega
    subst e
    exact Or.inl ⟨Nat.le_refl _, hd σ' H' p⟩
theorem ip_mulW {X : Cx} : PIp X .Mult (fun x y H Q => ∃ i j, x = .int i ∧ y = .int j ∧ CMulW i j ∧ Q (.int (i * j)) H) := by
  intro pins s σ H x y v u Q I r1 r2 h
  obtain ⟨i, j, rfl, rfl, c, q⟩ := h
  obtain ⟨t, rfl⟩ := r1
  obtain ⟨t', rfl⟩ := r2
  exact PyProof.Rows.imul_int ⟨.int _, H, I.tok _, ⟨_, rfl⟩, q⟩ c.ok
theorem pow_leW {m : Int} (m0 : 0 < m) (m1 : m < 2 ^ 24) {k : Nat} (hk : k ≤ 8) : m ^ k ≤ 2 ^ 192 := by
  have h1 : ∀ k : Nat, m ^ k ≤ (2 ^ 24) ^ k := fun k => by
    induction k with
    | zero => simp
    | succ k ih =>
      rw [Int.pow_succ, Int.pow_succ]
      exact Int.mul_le_mul ih (Int.le_of_lt m1) (by omega) (Int.le_of_lt (pow_pos' (by decide) k))
  have h2 : ((2 : Int) ^ 24) ^ k ≤ (2 ^ 24) ^ 8 := by
    have := Nat.pow_le_pow_right (n := 2 ^ 24) (by decide) hk
    exact_mod_cast this
  refine Int.le_trans (h1 k) (Int.le_trans h2 ?_)
  decide
theorem cmulW {i j : Int} (h : i.natAbs < 2 ^ 400) (g : j.natAbs < 2 ^ 400) : CMulW i j := wide_mul h g (by decide) (by decide) (by decide)
section
variable {P : Program} {w : World} {K : PySem.W.Frag} {mg : Str → Option Value} {base : Heap}
theorem scIsFr : FnScope ["value", "n", "m"] ["value"] (defScope sIsFr) := ⟨rfl, rfl, rfl, by decide +kernel, rfl, by decide +kernel, by decide +kernel⟩
theorem ok_isfr (D : Def K mg "is_fraction" sIsFr ["value"]) (nb : Nb mg) (c1 : Cal P w K mg base "is_whole" 1 ["value"] (spB wholeB)) : Cal P w K mg base "is_fraction" 2 ["value"] spFrac := by
  refine D.ok scIsFr (fun vs H Q E h => ?_) (fun f cdv A out s H vs Q E hr h => ?_)
  · obtain ⟨v, n, m, rfl, _⟩ := h; rfl
  obtain ⟨v, n, m, rfl, hv, m0, co, q⟩ := h
  refine ⟨_, pss_cons (ps_if (PW.pt (pw_or (pt_not (pt_val (pe_callB (id := "isinstance") (r := rIsi K) call_isi (by rfl) nb.isi (by decide +kernel) (pa_cons (pv 0) (pa_cons (pe_bltn (v := .ty "tuple") (by rfl) nb.tup (by decide +kernel) rfl) pa_nil)))))
      (pw_or1 (pt_cmpR op_ne (pe_callB (id := "len") (r := rLn K) call_len_seq (by rfl) nb.len PySem.boot_len (pa_cons (pv 0) pa_nil)) pe_int (nomark _))))) pss_dead pss_nil)
    (pss_cons (ps_asg (pv 0) (pg_tup rfl (pgs_cons (pg_name (i := 1) scIsFr.nd rfl (Or.inl rfl)) (pgs_cons (pg_name (i := 2) scIsFr.nd rfl (Or.inl rfl)) pgs_nil))))
    (pss_one (ps_ret (pe_and (pe_cal c1 hr (by decide) (by rfl) (pa_cons (pv 1) pa_nil)) (pe_and (pe_cal c1 hr (by decide) (by rfl) (pa_cons (pv 2) pa_nil)) (pe_and (pe_cmpR op_gt (pv 2) pe_int (nomark _))
      (pe_one (pe_cmpR op_eq (pe_callBfun cr_gcd (by rfl) nb.gc (pa_cons (pv 1) (pa_cons (pv 2) pa_nil))) pe_int (nomark _))))))))), ?_⟩
  walk_at "rd"
  obtain ⟨p, rfl, e⟩ := hv
  have dv : Da (p + 1) H (.ref p) (.tuple [.int n, .int m]) := .tup (Nat.ne_of_lt (Nat.lt_succ_self p)) e (.cons (.int n) (.cons (.int m) .nil))
  refine ⟨.ref p, rfl, isi dv (isi_tup _) ⟨true, rfl, iteF ⟨.ref p, rfl, p, _, rfl, .inr (SqT.of e), rfl, _, rfl, iteF ⟨_, rfl, p, _, rfl, SqT.of e, rfl, _, _, rfl, _, _, rfl, rfl, ?_⟩⟩⟩⟩
  refine ⟨.int n, rfl, 0, .int n, .int n, 0, rfl, .int n, sm_int _ _ _, fun H1 s1 => ⟨true, rfl, iteT ⟨.int m, rfl, 0, .int m, .int m, 0, rfl, .int m, sm_int _ _ _, fun H2 s2 => ⟨true, rfl, iteT ?_⟩⟩⟩⟩
  refine ⟨.int m, rfl, _, _, rfl, rfl, _, rfl, ite2 (fun c => ?_) (fun c => absurd (decide_eq_true m0) c)⟩
  refine ⟨.int n, rfl, .int m, rfl, n, m, rfl, rfl, ?_⟩
  rw [co]
  exact q H2 (s1.trans s2)
theorem scPower : FnScope ["base", "many", "found"] ["base", "many"] (defScope sPower) := ⟨rfl, rfl, rfl, by decide +kernel, rfl, by decide +kernel, by decide +kernel⟩
theorem pow_turn {b f : Int} {k : Nat} : (if k % 2 = 1 then f * b else f) * (b * b) ^ (k / 2) = f * b ^ k := by
  have e : b ^ k = (b * b) ^ (k / 2) * b ^ (k % 2) := by
    conv => lhs; rw [← Nat.div_add_mod k 2]
    rw [Int.pow_add, Int.pow_mul]
    congr 2
    rw [Int.pow_succ, Int.pow_succ, Int.pow_zero, Int.one_mul]
  rcases Nat.mod_two_eq_zero_or_one k with z | z
  · rw [if_neg (by omega), e, z, Int.pow_zero, Int.mul_one]
  · rw [if_pos z, e, z]
    rw [show b ^ 1 = b from by rw [Int.pow_succ, Int.pow_zero, Int.one_mul]]
    grind
theorem ok_power (D : Def K mg "power" sPower ["base", "many"]) : Cal P w K mg base "power" 1 ["base", "many"] spPower := by
  refine D.ok scPower (fun vs H Q E h => ?_) (fun f cdv A out s H vs Q E hr h => ?_)
  · obtain ⟨m, k, rfl, _⟩ := h; rfl
  obtain ⟨m, k, rfl, m0, m1, k1, q⟩ := h
  refine ⟨_, pss_cons (ps_set (i := 2) scPower.nd rfl (Or.inl rfl) pe_int)
    (pss_cons (ps_while PassesOwn.never (pt_truth (pv 1) (fun _ => rfl))
      (Evl.pss_cut (ps_if (pt_truth (pe_op op_odd (pv 1) pe_int) (fun _ => rfl)) (pss_one (ps_aug (i := 2) scPower.nd rfl (Or.inl rfl) (pv 0) ip_mulW)) pss_nil)
      (pss_cons (ps_aug (i := 1) scPower.nd rfl (Or.inl rfl) pe_int ip_half)
      (pss_one (ps_if (pt_truth (pv 1) (fun _ => rfl)) (pss_one (ps_aug (i := 0) scPower.nd rfl (Or.inl rfl) (pv 0) ip_mulW)) pss_nil)))))
    (pss_one (ps_ret (pv 2)))), ?_⟩
  walk_at "rd"
  have mk : m ^ k ≤ 2 ^ 192 := pow_leW m0 m1 k1
  refine ⟨fun j σ H' => ∃ b f : Int, σ = [some (.int b), some (.int (j : Int)), some (.int f)] ∧ 0 < b ∧ 0 < f ∧ f * b ^ j = m ^ k ∧ H' = H, ⟨k, m, 1, rfl, m0, by decide, by rw [Int.one_mul], rfl⟩, ?_⟩
  rintro j σ H1 ⟨b, f, rfl, b0, f0, e, rfl⟩
  refine ⟨.int j, rfl, _, rfl, ?_⟩
  have fle : f ≤ m ^ k := by
    have := pow_pos' b0 j
    have := Int.mul_le_mul_of_nonneg_left (show (1 : Int) ≤ b ^ j by omega) (show 0 ≤ f by omega)
    rw [Int.mul_one] at this
    omega
  by_cases c : j = 0
  · subst c
    refine iteF ⟨_, rfl, ?_⟩
    have : f = m ^ k := by simpa using e
    rw [this]
    exact q _ (Same.refl _)
  rw [show ((j : Int) != 0) = true from bne_iff_ne.mpr (by omega)]
  have ble : b ≤ m ^ k := by
    obtain ⟨i, rfl⟩ : ∃ i, j = i + 1 := ⟨j - 1, by omega⟩
    have p0 := pow_pos' b0 i
    have h1 : b ^ (i + 1) = b ^ i * b := Int.pow_succ _ _
    have h2 := Int.mul_le_mul_of_nonneg_right (show (1 : Int) ≤ f * b ^ i by have := Int.mul_pos f0 p0; omega) (show 0 ≤ b by omega)
    rw [Int.one_mul] at h2
    have h3 : f * b ^ i * b = m ^ k := by rw [Int.mul_assoc, ← h1, e]
    omega
  refine iteT ⟨fun σ' H' => ∃ (j' : Nat) (b f : Int), j' < j ∧ σ' = [some (.int b), some (.int (j' : Int)), some (.int f)] ∧ 0 < b ∧ 0 < f ∧ f * b ^ j' = m ^ k ∧ H' = H1, fun σ' H' ⟨j', b', f', a1, a2, a3, a4, a5, a6⟩ => ⟨j', a1, b', f', a2, a3, a4, a5, a6⟩, ?_⟩
  refine ⟨fun σ' H' => σ' = [some (.int b), some (.int (j : Int)), some (.int (if j % 2 = 1 then f * b else f))] ∧ H' = H1, ?_, ?_⟩
  · refine ⟨.int j, rfl, j, rfl, rfl, _, rfl, ?_⟩
    rcases Nat.mod_two_eq_zero_or_one j with z | z
    · rw [z]
      refine iteF ⟨?_, rfl⟩
      rw [if_neg (by omega)]
    · rw [z]
      refine iteT ⟨.int f, rfl, .int b, rfl, f, b, rfl, rfl, cmulW (by omega) (by omega), ?_, rfl⟩
      rw [if_pos rfl]
      rfl
  · rintro σ2 H2 ⟨rfl, rfl⟩
    refine ⟨.int j, rfl, j, rfl, rfl, .int ((j / 2 : Nat) : Int), rfl, _, rfl, ?_⟩
    have tn := pow_turn (b := b) (f := f) (k := j)
    have f2 : 0 < (if j % 2 = 1 then f * b else f) := by
      split
      · exact Int.mul_pos f0 b0
      · exact f0
    generalize (if j % 2 = 1 then f * b else f) = f' at tn f2 ⊢
    have jl : j / 2 < j := Nat.div_lt_self (by omega) (by decide)
    by_cases z : j / 2 = 0
    · rw [z] at tn ⊢
      refine iteF ⟨0, b, f', by omega, rfl, b0, f2, ?_, rfl⟩
      rw [← e, ← tn]
      simp
    · rw [show (((j / 2 : Nat) : Int) != 0) = true from bne_iff_ne.mpr (by omega)]
      refine iteT ⟨.int b, rfl, .int b, rfl, b, b, rfl, rfl, cmulW (by omega) (by omega), ?_⟩
      exact ⟨j / 2, b * b, f', jl, rfl, Int.mul_pos b0 b0, f2, by rw [tn, e], rfl⟩
end
end K44R

set_option Elab.async false
set_option linter.all false
set_option maxRecDepth 100000
set_option maxHeartbeats 4000000
local macro_rules | `(tactic| walk_at "rd") => `(tactic| dsimp only [Evl.tCut, L2.tSeq, L2.tNext, L2.tRet, L2.tRetN, L2.tAsg, L2.gName, L2.tIfS, L2.tDrop, L2.tCons, L2.tNil, L2.tC, L2.tVar, L2.tCB, L2.tAndV, L2.tOrV, L2.tNotV, L2.tB, L2.tTest, L2.tOp, L2.tUn, L2.tNot, L2.tAnd, L2.tOr, L2.tIf, L2.tCall, L2.tTup, L2.tLst, L2.tNotT, L2.tYes, L2.gTup, L2.gCons, L2.gNil, L2.gSub, L2.tBM0, L2.tBM, L2.tWhile, L2.tFor, L2.iRng1, L2.iRng2, L2.tAugS, Tw.iEnumT, L2.tCKw, L2.tAug, L2.ipI, RT.iRevA, L2.tPar, L2.tPar3, L2.tSl, L2.tNoPart, L2.tPart, Tw.tRevT])
namespace K44R
open PySem PySem.Spec PyProof.Rows L2 Tw
section
variable {P : Program} {w : World} {K : PySem.W.Frag} {mg : Str → Option Value} {base : Heap}
theorem scTrimmed : FnScope ["numbers", "last"] ["numbers"] (defScope sTrimmed) := ⟨rfl, rfl, rfl, by decide +kernel, rfl, by decide +kernel, by decide +kernel⟩
theorem cut_to {α : Type} (xs : List V) {m : Nat} (h : m ≤ xs.length) : L2.cutV xs none (some (m : Int)) = xs.take m := by
  unfold L2.cutV
  rw [HT.sIx_nat, HT.sIx_none, List.drop_zero, Nat.sub_zero, Nat.min_eq_left h]
theorem ok_trimmed (D : Def K mg "trimmed" sTrimmed ["numbers"]) (nb : Nb mg) : Cal P w K mg base "trimmed" 1 ["numbers"] spTrimI := by
  refine D.ok scTrimmed (fun vs H Q E h => ?_) (fun f cdv A out s H vs Q E hr h => ?_)
  · obtain ⟨p, l, rfl, _⟩ := h; rfl
  obtain ⟨p, l, rfl, e, q⟩ := h
  refine ⟨_, pss_cons (ps_set (i := 1) scTrimmed.nd rfl (Or.inl rfl) (pe_callB (id := "len") (r := rLn K) call_len_seq (by rfl) nb.len PySem.boot_len (pa_cons (pv 0) pa_nil)))
    (pss_cons (ps_while PassesOwn.never (PW.pt (pw_and (pt_truth (pv 1) (fun _ => rfl)) (pw_and1 (pt_cmpR op_eq (pe_ix ix_list (pv 0) (pe_op op_sub (pv 1) pe_int) (fun _ _ => rfl)) pe_int (nomark _)))))
      (pss_one (ps_aug (i := 1) scTrimmed.nd rfl (Or.inl rfl) pe_int ip_sub)))
    (pss_one (ps_ret (pe_callTy (T := "tuple") call_tuple_of (by rfl) nb.tup (by decide +kernel) (pa_cons (pe_slice sl_list (pv 0) po_none (po_some (pv 1))) pa_nil))))), ?_⟩
  walk_at "rd"
  refine ⟨.ref p, rfl, p, _, rfl, .inl (SqL.of e), ?_⟩
  have hz0 : ∀ (i : Nat) a, l.length ≤ i → l[i]? = some a → (a == 0) = true := by
    intro i a hi ea
    rw [List.getElem?_eq_none hi] at ea
    cases ea
  refine ⟨fun m σ H' => m ≤ l.length ∧ (∀ (i : Nat) a, m ≤ i → l[i]? = some a → (a == 0) = true) ∧ σ = [some (.ref p), some (.int (m : Int))] ∧ H' = H, ⟨l.length, Nat.le_refl _, hz0, by rw [List.length_map]; rfl, rfl⟩, ?_⟩
  rintro m σ H1 ⟨hm, hz, rfl, rfl⟩
  refine ⟨.int m, rfl, _, rfl, ?_⟩
  have fin : (m = 0 ∨ ∃ a, l[m - 1]? = some a ∧ (a == 0) = false) → ∃ v, [some (V.ref p), some (V.int (m : Int))][0]? = some (some v) ∧ ∃ v1, [some (V.ref p), some (V.int (m : Int))][1]? = some (some v1) ∧ ∃ b, v1 = V.int b ∧ rSlL K v none (some b) H1 fun x H2 => ∃ q' ys, [x] = [.ref q'] ∧ ((SqL K H2 q' ys ∧ ∀ t, H2 t = none → Q (.ref t) (upd H2 t (.tup ys))) ∨ (SqT K H2 q' ys ∧ Q (.ref q') H2)) := fun hb => by
    refine ⟨.ref p, rfl, .int m, rfl, m, rfl, p, _, rfl, SqL.of e, fun t nt => ⟨t, _, rfl, .inl ⟨SqL.of upd_same, fun t2 nt2 => ?_⟩⟩⟩
    refine q _ _ ((same_new nt).trans (same_new nt2)) ⟨t2, rfl, ?_⟩
    rw [upd_same, cut_to (α := Nat) _ (by rw [List.length_map]; exact hm), ← List.map_take]
    congr 3
    exact (trimBy_take _ l m hm hz hb).symm
  by_cases c : m = 0
  · subst c
    exact iteF (fin (.inl rfl))
  rw [show ((m : Int) != 0) = true from bne_iff_ne.mpr (by omega)]
  obtain ⟨j, rfl⟩ : ∃ j, m = j + 1 := ⟨m - 1, by omega⟩
  have hj : j < l.length := by omega
  have ej : ((j + 1 : Nat) : Int) - 1 = (j : Int) := by omega
  refine iteT ⟨.ref p, rfl, .int (j + 1 : Nat), rfl, _, _, rfl, rfl, ?_⟩
  walk_at "rd"
  rw [ej]
  refine ⟨p, _, _, .int l[j], rfl, rfl, SqL.of e, atI_nat (by rw [List.getElem?_map, List.getElem?_eq_getElem hj]; rfl), rfl, _, rfl, ?_⟩
  rw [dec_int]
  cases z : (l[j] == 0) with
  | true =>
    refine iteT ⟨fun σ' H' => σ' = [some (.ref p), some (.int (j : Int))] ∧ H' = H1, fun σ' H' h => ⟨j, by omega, by omega, fun i a hi ea => ?_, h.1, h.2⟩, .int (j + 1 : Nat), rfl, _, _, rfl, rfl, ?_, rfl⟩
    · rcases Nat.lt_or_eq_of_le hi with y | y
      · exact hz i a y ea
      · subst y
        rw [List.getElem?_eq_getElem hj] at ea
        cases ea
        exact z
    · show [some (V.ref p), some (V.int (((j + 1 : Nat) : Int) - 1))] = _
      rw [ej]
  | false => exact iteF (fin (.inr ⟨l[j], List.getElem?_eq_getElem hj, z⟩))
theorem scScaled : FnScope ["row", "n", "m", "total", "factor", "number"] ["row", "n", "m"] (defScope sScaled) := ⟨rfl, rfl, rfl, by decide +kernel, rfl, by decide +kernel, by decide +kernel⟩
theorem ok_scaled (D : Def K mg "scaled_value" sScaled ["row", "n", "m"]) (nb : Nb mg) : Cal P w K mg base "scaled_value" 1 ["row", "n", "m"] spScaled := by
  refine D.ok scScaled (fun vs H Q E h => ?_) (fun f cdv A out s H vs Q E hr h => ?_)
  · obtain ⟨u, r, n, m, rfl, _⟩ := h; rfl
  obtain ⟨u, r, n, m, rfl, hu, n1, m0, m1, hl, hc, q⟩ := h
  refine ⟨_, pss_cons (ps_set (i := 3) scScaled.nd rfl (Or.inl rfl) pe_int) (pss_cons (ps_set (i := 4) scScaled.nd rfl (Or.inl rfl) pe_int)
    (pss_cons (ps_for PassesOwn.never rfl (RT.pi_revA (by rfl) nb.rev (pv 0)) (pg_name (i := 5) scScaled.nd rfl (Or.inl rfl))
      (pss_cons (ps_set (i := 3) scScaled.nd rfl (Or.inl rfl) (pe_op op_add (pe_op op_mul (pv 3) (pv 1)) (pe_op op_mulW (pv 5) (pv 4))))
      (pss_one (ps_aug (i := 4) scScaled.nd rfl (Or.inl rfl) (pv 2) ip_mulW))))
    (pss_one (ps_ret (pv 3))))), ?_⟩
  walk_at "rd"
  obtain ⟨pu, rfl, eu⟩ := hu
  have pk : ∀ k, k ≤ 8 → m ^ k ≤ 2 ^ 192 := fun k hk => pow_leW m0 m1 hk
  refine ⟨.ref pu, rfl, pu, r.map V.int, rfl, .inr ⟨SqT.of eu, for_rev (xs := r.map V.int) (fun i σ H' => ∃ (x5 : Option V), σ = [some (.ref pu), some (.int n), some (.int m), some (.int (T n m (r.drop (r.length - i)))), some (.int (m ^ (r.drop (r.length - i)).length)), x5] ∧ H' = H) ?_ ?_ ?_ ?_⟩⟩
  · refine ⟨none, ?_, rfl⟩
    rw [Nat.sub_zero, List.drop_length, show (m ^ ([] : List Int).length : Int) = 1 from Int.pow_zero m]
    rfl
  · rintro i σ H1 hi ⟨x5, rfl, rfl⟩
    exact SqT.of eu
  · rintro i x σ H1 hi hx ⟨x5, rfl, rfl⟩
    rw [List.length_map] at hi hx
    have hix : r.length - 1 - i < r.length := by omega
    rw [List.getElem?_map, List.getElem?_eq_getElem hix] at hx
    cases hx
    have ls : (r.drop (r.length - i)).length = i := by rw [List.length_drop]; omega
    have dt := drop_top hi
    generalize r.drop (r.length - i) = sfx at ls dt ⊢
    rw [dt]
    have p0 := pow_pos' m0 sfx.length
    have p1 := pk sfx.length (by omega)
    have hci := hc _ (List.getElem_mem hix)
    refine ⟨.int (T n m sfx), rfl, .int n, rfl, _, _, rfl, rfl, .inr ⟨by omega, by omega⟩, .int _, rfl, .int _, rfl, _, _, rfl, rfl, cmulW (by omega) (by omega), _, _, rfl, rfl, .int _, rfl, .int m, rfl, _, _, rfl, rfl, cmulW (by omega) (by omega), some (.int r[r.length - 1 - i]), ?_, rfl⟩
    show [some (V.ref pu), some (V.int n), some (V.int m), some (V.int (T n m sfx * n + r[r.length - 1 - i] * m ^ sfx.length)), some (V.int (m ^ sfx.length * m)), some (V.int r[r.length - 1 - i])] = _
    rw [List.length_cons, Int.pow_succ, T]
  · rintro σ H1 ⟨x5, rfl, rfl⟩
    refine ⟨_, rfl, ?_⟩
    rw [List.length_map, Nat.sub_self, List.drop_zero]
    exact q _ (Same.refl _)
end
end K44R

set_option Elab.async false
set_option linter.all false
set_option maxRecDepth 100000
set_option maxHeartbeats 4000000
local macro_rules | `(tactic| walk_at "rd") => `(tactic| dsimp only [Evl.tCut, L2.tSeq, L2.tNext, L2.tRet, L2.tRetN, L2.tAsg, L2.gName, L2.tIfS, L2.tDrop, L2.tCons, L2.tNil, L2.tC, L2.tVar, L2.tCB, L2.tAndV, L2.tOrV, L2.tNotV, L2.tB, L2.tTest, L2.tOp, L2.tUn, L2.tNot, L2.tAnd, L2.tOr, L2.tIf, L2.tCall, L2.tTup, L2.tLst, L2.tNotT, L2.tYes, L2.gTup, L2.gCons, L2.gNil, L2.gSub, L2.tBM0, L2.tBM, L2.tWhile, L2.tFor, L2.iRng1, L2.iRng2, L2.tAugS, Tw.iEnumT, L2.tCKw, L2.tAug, L2.ipI, RT.iRevA, L2.tPar, L2.tPar3, L2.tSl, L2.tNoPart, L2.tPart, Tw.tRevT])
namespace K44R
open PySem PySem.Spec PyProof.Rows L2 Tw
def spTP : Sp := fun vs H Q _ => ∃ p xs rs, vs = [.ref p] ∧ H p = some (.lst xs) ∧ RoA H xs rs ∧ ∀ v H', Same H H' → Po H' v (trimP rs) → Q v H'
def spExch : Sp := fun vs H Q _ => ∃ u p b, vs = [u] ∧ Po H u p ∧ Bd 8 b p ∧ ∀ v H', Same H H' → Po H' v (exch p) → Q v H'
theorem maxN_lng (p : List (List Int)) : maxN (p.map fun r => ((r.length : Nat) : Int)) = (lng p : Int) := by
  unfold maxN
  rw [max_fold p 0 (by omega)]
  omega
section
variable {P : Program} {w : World} {K : PySem.W.Frag} {mg : Str → Option Value} {base : Heap}
theorem scPTrim : FnScope ["rows", "last"] ["rows"] (defScope sPTrim) := ⟨rfl, rfl, rfl, by decide +kernel, rfl, by decide +kernel, by decide +kernel⟩
theorem ok_ptrim (D : Def K mg "poly_trimmed" sPTrim ["rows"]) (nb : Nb mg) : Cal P w K mg base "poly_trimmed" 1 ["rows"] spTP := by
  refine D.ok scPTrim (fun vs H Q E h => ?_) (fun f cdv A out s H vs Q E hr h => ?_)
  · obtain ⟨p, xs, l, rfl, _⟩ := h; rfl
  obtain ⟨p, xs, l, rfl, e, hx, q⟩ := h
  refine ⟨_, pss_cons (ps_set (i := 1) scPTrim.nd rfl (Or.inl rfl) (pe_callB (id := "len") (r := rLn K) call_len_seq (by rfl) nb.len PySem.boot_len (pa_cons (pv 0) pa_nil)))
    (pss_cons (ps_while PassesOwn.never (PW.pt (pw_and (pt_truth (pv 1) (fun _ => rfl)) (pw_and1 (pt_not (pt_truth (pe_ix ix_list (pv 0) (pe_op op_sub (pv 1) pe_int) (fun _ _ => rfl)) (fun _ => rfl))))))
      (pss_one (ps_aug (i := 1) scPTrim.nd rfl (Or.inl rfl) pe_int ip_sub)))
    (pss_one (ps_ret (pe_callTy (T := "tuple") call_tuple_of (by rfl) nb.tup (by decide +kernel) (pa_cons (pe_slice sl_list (pv 0) po_none (po_some (pv 1))) pa_nil))))), ?_⟩
  walk_at "rd"
  have lx := hx.1
  have hz0 : ∀ (i : Nat) a, l.length ≤ i → l[i]? = some a → a.isEmpty = true := by
    intro i a hi ea
    rw [List.getElem?_eq_none hi] at ea
    cases ea
  refine ⟨.ref p, rfl, p, _, rfl, .inl (SqL.of e), ?_⟩
  refine ⟨fun m σ H' => m ≤ l.length ∧ (∀ (i : Nat) a, m ≤ i → l[i]? = some a → a.isEmpty = true) ∧ σ = [some (.ref p), some (.int (m : Int))] ∧ H' = H, ⟨l.length, Nat.le_refl _, hz0, by rw [lx]; rfl, rfl⟩, ?_⟩
  rintro m σ H1 ⟨hm, hz, rfl, rfl⟩
  refine ⟨.int m, rfl, _, rfl, ?_⟩
  have fin : (m = 0 ∨ ∃ a, l[m - 1]? = some a ∧ a.isEmpty = false) → ∃ v, [some (V.ref p), some (V.int (m : Int))][0]? = some (some v) ∧ ∃ v1, [some (V.ref p), some (V.int (m : Int))][1]? = some (some v1) ∧ ∃ b, v1 = V.int b ∧ rSlL K v none (some b) H1 fun x H2 => ∃ q' ys, [x] = [.ref q'] ∧ ((SqL K H2 q' ys ∧ ∀ t, H2 t = none → Q (.ref t) (upd H2 t (.tup ys))) ∨ (SqT K H2 q' ys ∧ Q (.ref q') H2)) := fun hb => by
    refine ⟨.ref p, rfl, .int m, rfl, m, rfl, p, _, rfl, SqL.of e, fun t nt => ⟨t, _, rfl, .inl ⟨SqL.of upd_same, fun t2 nt2 => ?_⟩⟩⟩
    have s2 := (same_new (o := .lst (L2.cutV xs none (some (m : Int)))) nt).trans (same_new (o := .tup (L2.cutV xs none (some (m : Int)))) nt2)
    refine q _ _ s2 ⟨t2, _, rfl, upd_same, ?_⟩
    rw [cut_to (α := Nat) xs (by rw [lx]; exact hm)] at s2 ⊢
    rw [show trimP l = l.take m from trimBy_take _ l m hm hz hb]
    exact (RoA.kt (Kt.of s2) hx).take m
  by_cases c : m = 0
  · subst c
    exact iteF (fin (.inl rfl))
  rw [show ((m : Int) != 0) = true from bne_iff_ne.mpr (by omega)]
  obtain ⟨j, rfl⟩ : ∃ j, m = j + 1 := ⟨m - 1, by omega⟩
  have hj : j < l.length := by omega
  have ej : ((j + 1 : Nat) : Int) - 1 = (j : Int) := by omega
  refine iteT ⟨.ref p, rfl, .int (j + 1 : Nat), rfl, _, _, rfl, rfl, ?_⟩
  walk_at "rd"
  rw [ej]
  obtain ⟨x, gx, pr, rfl, er⟩ := hx.get hj
  refine ⟨p, _, _, .ref pr, rfl, rfl, SqL.of e, atI_nat gx, _, .inr (.inl ⟨_, SqT.of er, rfl⟩), ?_⟩
  have ee : (l[j].map V.int).isEmpty = l[j].isEmpty := by cases l[j] <;> rfl
  rw [ee, Bool.not_not]
  cases z : l[j].isEmpty with
  | true =>
    refine iteT ⟨fun σ' H' => σ' = [some (.ref p), some (.int (j : Int))] ∧ H' = H1, fun σ' H' h => ⟨j, by omega, by omega, fun i a hi ea => ?_, h.1, h.2⟩, .int (j + 1 : Nat), rfl, _, _, rfl, rfl, ?_, rfl⟩
    · rcases Nat.lt_or_eq_of_le hi with y | y
      · exact hz i a y ea
      · subst y
        rw [List.getElem?_eq_getElem hj] at ea
        cases ea
        exact z
    · show [some (V.ref p), some (V.int (((j + 1 : Nat) : Int) - 1))] = _
      rw [ej]
  | false => exact iteF (fin (.inr ⟨l[j], List.getElem?_eq_getElem hj, z⟩))
theorem scPExch : FnScope ["poly", "longest", "rows", "k", "row"] ["poly"] (defScope sPExch) := ⟨rfl, rfl, rfl, by decide +kernel, rfl, by decide +kernel, by decide +kernel⟩
theorem ok_pexch (D : Def K mg "poly_exchanged" sPExch ["poly"]) (nb : Nb mg) (c2 : Cal P w K mg base "trimmed" 1 ["numbers"] spTrimI) (c3 : Cal P w K mg base "poly_trimmed" 1 ["rows"] spTP) : Cal P w K mg base "poly_exchanged" 2 ["poly"] spExch := by
  refine D.ok scPExch (fun vs H Q E h => ?_) (fun f cdv A out s H vs Q E hr h => ?_)
  · obtain ⟨u, p, b, rfl, _⟩ := h; rfl
  obtain ⟨u, p, b, rfl, hp, hb, q⟩ := h
  refine ⟨_, pss_cons (ps_set (i := 1) scPExch.nd rfl (Or.inl rfl) (pe_callBK (r := rMaxZ K) (id := "max") (cr_maxZ rfl hr.units) (by rfl) nb.max (by decide +kernel) (pa_cons
          (pe_lc (own := [("row", 4)]) (g := gName 4) (tt := tYes) rfl scPExch.nd (pi_tup (pv 0)) (blkOk_by (N := ["poly", "longest", "rows", "k", "row"]) (sc := defScope sPExch) (by decide +kernel))
            (fun _ _ _ _ _ => pg_name (i := 4) scPExch.nd rfl (Or.inl rfl)) (fun _ _ _ _ _ => pts_nil) (fun _ _ _ _ _ => pe_callB (id := "len") (r := rLn K) call_len_seq (by rfl) nb.len PySem.boot_len (pa_cons (pv 4) pa_nil))) pa_nil) (pk_cons pe_int pk_nil)))
    (pss_cons (ps_set (i := 2) scPExch.nd rfl (Or.inl rfl) (pe_lst pa_nil))
    (pss_cons (ps_for PassesOwn.never rfl (pi_range1 (by rfl) nb.rng (pa_cons (pv 1) pa_nil))
        (pg_name (i := 3) scPExch.nd rfl (Or.inr rfl))
        (pss_one (ps_expr (pe_bm PySem.F.plainAttrs_list PySem.F.slot_list_append PySem.F.type_list_append mt_append (pv 2) (pa_cons (pe_cal c2 hr (by decide) (by rfl) (pa_cons
          (pe_lc (own := [("row", 4)]) (g := gName 4) (tt := tYes) rfl scPExch.nd (pi_tup (pv 0)) (blkOk_by (N := ["poly", "longest", "rows", "k", "row"]) (sc := defScope sPExch) (by decide +kernel))
            (fun _ _ _ _ _ => pg_name (i := 4) scPExch.nd rfl (Or.inl rfl)) (fun _ _ _ _ _ => pts_nil)
            (fun _ _ _ _ _ => pe_ifExp (pt_cmpR op_lt (pv 3) (pe_callB (id := "len") (r := rLn K) call_len_seq (by rfl) nb.len PySem.boot_len (pa_cons (pv 4) pa_nil)) (nomark _)) (pe_ix (r := rIxT K) ix_tup (pv 4) (pv 3) (fun _ _ => rfl)) pe_int)) pa_nil)) pa_nil)))))
    (pss_one (ps_ret (pe_cal c3 hr (by decide) (by rfl) (pa_cons (pv 2) pa_nil)))))), ?_⟩
  walk_at "rd"
  obtain ⟨pu, xs, rfl, eu, hx⟩ := hp
  have lb := hb.1
  refine lc_relT (S := Ro) (R := fun _ v k => v = V.int k) (g := fun r => ((r.length : Nat) : Int)) (rs := p) (p := pu) (xs := xs) stable_ro (stable_eq _) rfl eu hx (by omega) (fun x => wipeJ _ _ _) (fun x r H2 hr2 s2 rx Z hZ => ?_) fun D ys H2 s2 nD eD ry => ?_
  · obtain ⟨pr, rfl, er⟩ := rx
    exact ⟨.ref pr, rfl, pr, _, rfl, .inr (SqT.of er), hZ _ _ (Same.refl _) (by rw [List.length_map])⟩
  have ey : ys = (p.map fun r => ((r.length : Nat) : Int)).map V.int := RelA.eq_map ry
  subst ey
  refine ⟨D, _, rfl, rfl, SqL.of eD, fun n hn => ?_, ?_⟩
  · obtain ⟨r, _, rfl⟩ := List.mem_map.mp hn
    omega
  rw [maxN_lng]
  have l8 : lng p ≤ 8 := lng_bd fun r hr => (hb.2 r hr).1
  refine ⟨sz (by simp), fun L nL2 => ?_⟩
  have nL : H L = none := s2.free nL2
  have s3 := s2.trans (same_new (o := .lst []) nL2)
  have eL3 : upd H2 L (.lst []) L = some (.lst []) := upd_same
  generalize upd H2 L (.lst []) = H3 at s3 eL3 ⊢
  refine ⟨.int (lng p : Int), rfl, (lng p : Int), rfl, by omega, by omega, for_rng (lo := 0) (n := (lng p : Int).toNat) (fun i σ H' => ∃ (x3 : Option V) (ys : List V), σ = [some (.ref pu), some (.int (lng p : Int)), some (.ref L), x3, none] ∧ Same H H' ∧ H' L = some (.lst ys) ∧ RelA Ro H' ys ((List.range i).map (col p))) ?_ ?_ ?_⟩
  · exact ⟨none, [], rfl, s3, eL3, rfl, fun i v e => by simp at e⟩
  · rintro i σ H4 hi ⟨x2, ys, rfl, s4, e4, r4⟩
    walk_at "rd"
    refine ⟨.ref L, rfl, .inl ⟨rfl, _, SqL.of e4⟩, ?_⟩
    refine lc_relT (S := Ro) (R := fun _ v k => v = V.int k) (g := fun r => r.getD i 0) (rs := p) (p := pu) (xs := xs) stable_ro (stable_eq _) rfl (s4 _ _ eu) (RoA.kt (Kt.of s4) hx) (by omega) (fun x => wipeJ _ _ _) (fun x r H5 hr5 s5 rx Z hZ => ?_) fun D ys2 H5 s5 nD eD ry => ?_
    · obtain ⟨pr, rfl, er⟩ := rx
      walk_at "rd"
      refine ⟨.int (0 + (i : Int)), rfl, .ref pr, rfl, pr, _, rfl, .inr (SqT.of er), _, _, rfl, rfl, _, rfl, ite2 (fun c => ?_) (fun c => ?_)⟩
      · have c := of_decide_eq_true c
        rw [List.length_map] at c
        have hi2 : i < r.length := by omega
        refine ⟨.ref pr, rfl, .int (0 + (i : Int)), rfl, pr, _, _, .int (r.getD i 0), rfl, rfl, SqT.of er, ?_, hZ _ _ (Same.refl _) rfl⟩
        rw [Int.zero_add]
        refine atI_nat ?_
        rw [List.getElem?_map, List.getElem?_eq_getElem hi2, List.getD_eq_getElem?_getD, List.getElem?_eq_getElem hi2]
        rfl
      · have c : ¬ (i < r.length) := fun z => c (decide_eq_true (by rw [List.length_map]; omega))
        refine hZ _ _ (Same.refl _) ?_
        rw [List.getD_eq_getElem?_getD, List.getElem?_eq_none (by omega)]
        rfl
    have ey : ys2 = (p.map fun r => r.getD i 0).map V.int := RelA.eq_map ry
    subst ey
    refine ⟨D, _, rfl, eD, fun v H6 s6 r6 => ⟨L, ys, v, rfl, rfl, (s5.trans s6) _ _ e4, ?_, ?_⟩⟩
    · have := r4.1
      rw [List.length_map, List.length_range] at this
      exact lt_line (by omega)
    · have e6 := (s5.trans s6) _ _ e4
      refine ⟨some (.int (0 + (i : Int))), ys ++ [v], rfl, same_upd ((s4.trans s5).trans s6) nL, upd_same, ?_⟩
      rw [List.range_succ, List.map_append]
      exact ((r4.kt stable_ro (Kt.of (s5.trans s6))).snoc r6).kt stable_ro (kt_upd e6)
  · rintro σ H4 ⟨x2, ys, rfl, s4, e4, r4⟩
    exact ⟨.ref L, rfl, L, ys, _, rfl, e4, r4, fun v H5 s5 p5 => q v H5 (s4.trans s5) p5⟩
end
end K44R

set_option Elab.async false
set_option linter.all false
set_option maxRecDepth 100000
set_option maxHeartbeats 4000000
local macro_rules | `(tactic| walk_at "rd") => `(tactic| dsimp only [Evl.tCut, L2.tSeq, L2.tNext, L2.tRet, L2.tRetN, L2.tAsg, L2.gName, L2.tIfS, L2.tDrop, L2.tCons, L2.tNil, L2.tC, L2.tVar, L2.tCB, L2.tAndV, L2.tOrV, L2.tNotV, L2.tB, L2.tTest, L2.tOp, L2.tUn, L2.tNot, L2.tAnd, L2.tOr, L2.tIf, L2.tCall, L2.tTup, L2.tLst, L2.tNotT, L2.tYes, L2.gTup, L2.gCons, L2.gNil, L2.gSub, L2.tBM0, L2.tBM, L2.tWhile, L2.tFor, L2.iRng1, L2.iRng2, L2.tAugS, Tw.iEnumT, L2.tCKw, L2.tAug, L2.ipI, RT.iRevA, L2.tPar, L2.tPar3, L2.tSl, L2.tNoPart, L2.tPart, Tw.tRevT])
namespace K44R
open PySem PySem.Spec PyProof.Rows L2 Tw
theorem co_rw (p : List (List Int)) (i j : Nat) : co p i j = g (rw' p i) j := rfl
theorem co_none {p : List (List Int)} {i : Nat} (h : p.length ≤ i) (j : Nat) : co p i j = 0 := by
  rw [co_rw, rw_none h]
  rfl
theorem bd48 {b : Nat} {p : List (List Int)} (h : Bd 4 b p) : Bd 8 b p := ⟨by have := h.1; omega, fun r hr => ⟨by have := (h.2 r hr).1; omega, (h.2 r hr).2⟩⟩
theorem getD_map_range {α : Type} (f : Nat → α) (d : α) (n k : Nat) (z : n ≤ k → f k = d) : ((List.range n).map f).getD k d = f k := by
  rw [List.getD_eq_getElem?_getD]
  rcases Nat.lt_or_ge k n with c | c
  · rw [List.getElem?_eq_getElem (by rw [List.length_map, List.length_range]; exact c), List.getElem_map, List.getElem_range]
    rfl
  · rw [List.getElem?_eq_none (by rw [List.length_map, List.length_range]; exact c), z c]
    rfl
/-- exchanged: the numbers change places -/
theorem co_exch (p : List (List Int)) (i j : Nat) : co (exch p) i j = co p j i := by
  have zcol : lng p ≤ i → col p i = [] := fun h => by
    have nil : ∀ l : List Int, (∀ c ∈ l, c = 0) → trimI l = [] := fun l => by
      intro hl
      have := trimBy_take (fun c : Int => c == 0) l 0 (Nat.zero_le _) (fun k c _ e => by rw [hl c (List.mem_of_getElem? e)]; rfl) (.inl rfl)
      rw [show trimI l = trimBy (fun c : Int => c == 0) l from rfl, this, List.take_zero]
    refine nil _ fun c hc => ?_
    obtain ⟨r, hr, rfl⟩ := List.mem_map.mp hc
    exact g_none (Nat.le_trans (lng_le hr) h)
  rw [co_rw, show rw' (exch p) i = rw' ((List.range (lng p)).map (col p)) i from rw_trim _ _]
  rw [show rw' ((List.range (lng p)).map (col p)) i = col p i from getD_map_range _ _ _ _ zcol]
  rw [show g (col p i) j = g (p.map fun r => r.getD i 0) j from g_trim _ _]
  rcases Nat.lt_or_ge j p.length with c | c
  · rw [g_some (by rw [List.length_map]; exact c), List.getElem_map, co_rw, rw_some c]
  · rw [g_none (by rw [List.length_map]; exact c), co_none c]
end K44R

set_option Elab.async false
set_option linter.all false
set_option maxRecDepth 100000
set_option maxHeartbeats 8000000
namespace K44
open PySem PySem.Spec PyProof.Rows L2 Tw
open K44R (polyD okP okR exch lng T numAt nums co g rw' trimI trimP col)
/-! sayings changed: what the answers are -/
def intOf : PyData → Int
  | .int i => i
  | _ => 0
def intsOf : PyData → List Int
  | .tuple ds => ds.map intOf
  | _ => []
def unD : PyData → List (List Int)
  | .tuple ds => ds.map intsOf
  | _ => []
theorem ints_row (r : List Int) : intsOf (K44R.rowD r) = r := by
  show (r.map PyData.int).map intOf = r
  rw [List.map_map]
  exact List.map_id r
theorem un_poly (p : List (List Int)) : unD (polyD p) = p := by
  show (p.map K44R.rowD).map intsOf = p
  rw [List.map_map]
  refine (List.map_congr_left fun r _ => ?_).trans (List.map_id p)
  exact ints_row r
theorem whole_int {d : PyData} (h : wholeB d = true) : d = .int (intOf d) := by
  cases d <;> first | rfl | (simp [wholeB, isIntD, isBoolD] at h)
theorem row_of {d : PyData} (h : rowB d = true) : d = K44R.rowD (intsOf d) ∧ okR (intsOf d) := by
  cases d with
  | tuple ds =>
    unfold rowB at h
    rw [Bool.and_eq_true] at h
    have e : ds = (ds.map intOf).map PyData.int := by
      rw [List.map_map]
      exact ((List.map_congr_left fun d hd => (whole_int (all_mem h.1 hd)).symm).trans (List.map_id ds)).symm
    refine ⟨by show PyData.tuple ds = .tuple ((ds.map intOf).map PyData.int); rw [← e], fun c hc => ?_⟩
    have hl := h.2
    unfold lastD at hl
    have hc : (ds.map intOf).getLast? = some c := hc
    rw [List.getLast?_map] at hc
    cases el : ds.getLast? with
    | none => rw [el] at hc; cases hc
    | some x =>
      rw [el] at hl hc
      cases hc
      have hw := whole_int (all_mem h.1 (List.mem_of_getLast? el))
      intro z
      rw [hw, z] at hl
      simp [PyData.eqv] at hl
  | _ => cases h
theorem small_un {d : PyData} (h : smallB d = true) : d = polyD (unD d) ∧ okP (unD d) ∧ (unD d).length ≤ 5 ∧ ∀ r ∈ unD d, r.length ≤ 5 := by
  obtain ⟨_, _, ds, rfl, hr, hl, hw⟩ := small_k h
  have hp := small_poly h
  unfold polyB at hp
  rw [Bool.and_eq_true] at hp
  have e : ds = (ds.map intsOf).map K44R.rowD := by
    rw [List.map_map]
    exact ((List.map_congr_left fun d hd => (row_of (hr d hd)).1.symm).trans (List.map_id ds)).symm
  have hwid : ∀ l : List PyData, l.foldr (fun r m => max (lenD r) m) 0 ≤ 5 → ∀ r ∈ l, lenD r ≤ 5 := fun l => by
    induction l with
    | nil => intro _ r m; cases m
    | cons a l ih =>
      intro h r m
      rw [List.foldr_cons] at h
      rcases List.mem_cons.mp m with rfl | m
      · omega
      · exact ih (by omega) r m
  refine ⟨by show PyData.tuple ds = .tuple ((ds.map intsOf).map K44R.rowD); rw [← e], ⟨fun r m => ?_, fun r m => ?_⟩, by show (ds.map intsOf).length ≤ 5; rw [List.length_map]; exact hl, fun r m => ?_⟩
  · obtain ⟨d, hd, rfl⟩ := List.mem_map.mp m
    exact (row_of (hr d hd)).2
  · have m : (ds.map intsOf).getLast? = some r := m
    rw [List.getLast?_map] at m
    have hl2 := hp.2
    unfold lastD at hl2
    cases el : ds.getLast? with
    | none => rw [el] at m; cases m
    | some x =>
      rw [el] at m hl2
      cases m
      have hx := (row_of (hr x (List.mem_of_getLast? el))).1
      intro z
      rw [hx, z] at hl2
      simp [K44R.rowD, PyData.eqv, PyData.eqvAll] at hl2
  · obtain ⟨d, hd, rfl⟩ := List.mem_map.mp m
    have h5 := hwid ds hw d hd
    have hd2 := (row_of (hr d hd)).1
    rw [hd2] at h5
    have : ((intsOf d).map PyData.int).length ≤ 5 := h5
    rwa [List.length_map] at this
theorem polyB_eq (d : PyData) : K44R.polyB d = polyB d := by cases d <;> rfl
theorem small_mk {p : List (List Int)} (h : okP p) (hl : p.length ≤ 5) (hw : ∀ r ∈ p, r.length ≤ 5) : smallB (polyD p) = true := by
  have h1 := K44R.polyB_ok h
  rw [polyB_eq] at h1
  unfold smallB
  rw [h1]
  have h2 : lenD (polyD p) ≤ 5 := by show (p.map K44R.rowD).length ≤ 5; rw [List.length_map]; exact hl
  have h3 : widD (polyD p) ≤ 5 := by
    show (p.map K44R.rowD).foldr (fun r m => max (lenD r) m) 0 ≤ 5
    induction p with
    | nil => exact Nat.zero_le _
    | cons r p ih =>
      rw [List.map_cons, List.foldr_cons]
      refine Nat.max_le.mpr ⟨by show (r.map PyData.int).length ≤ 5; rw [List.length_map]; exact hw r (by simp), ?_⟩
      have key : ∀ q : List (List Int), (∀ r ∈ q, r.length ≤ 5) → (q.map K44R.rowD).foldr (fun r m => max (lenD r) m) 0 ≤ 5 := fun q => by
        induction q with
        | nil => intro _; exact Nat.zero_le _
        | cons a q ih =>
          intro h
          rw [List.map_cons, List.foldr_cons]
          exact Nat.max_le.mpr ⟨by show (a.map PyData.int).length ≤ 5; rw [List.length_map]; exact h a (by simp), ih fun r m => h r (by simp [m])⟩
      exact key p fun a m => hw a (by simp [m])
  rw [decide_eq_true h2, decide_eq_true h3]
  rfl
/-! the letters exchanged -/
def exD (d : PyData) : PyData := polyD (exch (unD d))
theorem ex_small {d : PyData} (h : smallB d = true) : smallB (exD d) = true := by
  obtain ⟨_, h2, h3, h4⟩ := small_un h
  have b := K44R.bd_exch (n := 5) (b := ((unD d).flatMap fun r => r.map Int.natAbs).sum) (p := unD d) ⟨h3, fun r hr => ⟨h4 r hr, fun c hc => ?_⟩⟩
  · exact small_mk (K44R.okP_exch _) b.1 fun r hr => (b.2 r hr).1
  · have key : ∀ (l : List Nat) (x : Nat), x ∈ l → x ≤ l.sum := fun l => by
      induction l with
      | nil => intro x m; cases m
      | cons a l ih =>
        intro x m
        rw [List.sum_cons]
        rcases List.mem_cons.mp m with rfl | m
        · omega
        · have := ih x m; omega
    exact key _ _ (List.mem_flatMap.mpr ⟨r, hr, List.mem_map_of_mem hc⟩)
theorem exch_two {p : List (List Int)} (h : okP p) : exch (exch p) = p := K44R.poly_ext (K44R.okP_exch _) h fun i j => by rw [K44R.co_exch, K44R.co_exch]
theorem exD_two {d : PyData} (h : smallB d = true) : exD (exD d) = d := by
  obtain ⟨h1, h2, _⟩ := small_un h
  unfold exD
  rw [un_poly, exch_two h2]
  exact h1.symm
/-! a fraction put for a letter -/
def putX (p : List (List Int)) (n m : Int) : List (List Int) := trimP ((nums n m p).map fun v => if v = 0 then [] else [v])
def putY (p : List (List Int)) (n m : Int) : List (List Int) := exch (putX (exch p) n m)
def putD (x : Bool) (n m : Int) (d : PyData) : PyData := polyD (if x then putX (unD d) n m else putY (unD d) n m)
theorem okP_putX (p : List (List Int)) (n m : Int) : okP (putX p n m) := K44R.okP_trim fun r hr => by
  obtain ⟨v, _, rfl⟩ := List.mem_map.mp hr
  intro c hc
  split at hc
  · cases hc
  · rename_i h
    cases hc
    exact h
theorem putX_len (p : List (List Int)) (n m : Int) : (putX p n m).length ≤ p.length ∧ ∀ r ∈ putX p n m, r.length ≤ 1 := by
  refine ⟨Nat.le_trans (K44R.trimBy_len _ _) (by rw [List.length_map]; unfold nums; rw [List.length_map]; exact Nat.le_refl _), fun r hr => ?_⟩
  obtain ⟨v, _, rfl⟩ := List.mem_map.mp (K44R.trimBy_mem _ _ hr)
  split
  · exact Nat.zero_le _
  · exact Nat.le_refl _
theorem exch_len {p : List (List Int)} {a b : Nat} (h1 : p.length ≤ a) (h2 : ∀ r ∈ p, r.length ≤ b) : (exch p).length ≤ b ∧ ∀ r ∈ exch p, r.length ≤ a := by
  refine ⟨Nat.le_trans (K44R.trimBy_len _ _) (by rw [List.length_map, List.length_range]; exact K44R.lng_bd h2), fun r hr => ?_⟩
  obtain ⟨k, _, rfl⟩ := List.mem_map.mp (K44R.trimBy_mem _ _ hr)
  exact Nat.le_trans (K44R.trimBy_len _ _) (by rw [List.length_map]; exact h1)
theorem put_small {x : Bool} {n m : Int} {d : PyData} (h : smallB d = true) : smallB (putD x n m d) = true := by
  obtain ⟨_, h2, h3, h4⟩ := small_un h
  unfold putD
  cases x with
  | true =>
    obtain ⟨a, b⟩ := putX_len (unD d) n m
    exact small_mk (okP_putX _ _ _) (by show (putX (unD d) n m).length ≤ 5; omega) fun r hr => Nat.le_trans (b r hr) (by decide)
  | false =>
    obtain ⟨a, b⟩ := exch_len h3 h4
    obtain ⟨a2, b2⟩ := putX_len (exch (unD d)) n m
    obtain ⟨a3, b3⟩ := exch_len (Nat.le_trans a2 a) b2
    exact small_mk (K44R.okP_exch _) (Nat.le_trans a3 (by decide)) b3
theorem T_trim (n m : Int) : ∀ l : List Int, T n m l = T n m (trimI l) * m ^ (l.length - (trimI l).length)
  | [] => by simp [K44R.trimBy, T]
  | c :: l => by
    have ih := T_trim n m l
    have hl := K44R.trimBy_len (fun c : Int => c == 0) l
    show T n m l * n + c * m ^ l.length = _
    rw [ih]
    cases e : trimI l with
    | nil =>
      have et : trimI (c :: l) = if (c == 0) = true then [] else [c] := by
        show K44R.trimBy _ (c :: l) = _
        rw [K44R.trimBy, show K44R.trimBy (fun c : Int => c == 0) l = [] from e]
      rw [et]
      by_cases hc : c = 0
      · subst hc
        simp [T]
      · have hc2 : (c == 0) = false := by simpa using hc
        simp [T, hc2]
    | cons b r =>
      have et : trimI (c :: l) = c :: b :: r := by
        show K44R.trimBy _ (c :: l) = _
        rw [K44R.trimBy, show K44R.trimBy (fun c : Int => c == 0) l = b :: r from e]
      have hl : (trimI l).length ≤ l.length := hl
      rw [e] at hl
      rw [et]
      simp only [List.length_cons] at hl ⊢
      show T n m (b :: r) * m ^ (l.length - (r.length + 1)) * n + c * m ^ l.length = (T n m (b :: r) * n + c * m ^ (r.length + 1)) * m ^ (l.length + 1 - (r.length + 1 + 1))
      rw [show l.length + 1 - (r.length + 1 + 1) = l.length - (r.length + 1) by omega, Int.add_mul, Int.mul_assoc c, ← Int.pow_add, show r.length + 1 + (l.length - (r.length + 1)) = l.length by omega]
      congr 1
      rw [Int.mul_assoc, Int.mul_assoc, Int.mul_comm (m ^ _) n]
/-- a column, noughts and all -/
def colf (p : List (List Int)) (k : Nat) : List Int := p.map fun r => g r k
theorem col_trim (p : List (List Int)) (k : Nat) : col p k = trimI (colf p k) := rfl
theorem last_some {α : Type} {l : List α} (h : l ≠ []) : ∃ x, l.getLast? = some x ∧ l[l.length - 1]? = some x ∧ x ∈ l := by
  have hl : l.length - 1 < l.length := by have := List.length_pos_iff.mpr h; omega
  refine ⟨l[l.length - 1], ?_, List.getElem?_eq_getElem hl, List.getElem_mem hl⟩
  rw [List.getLast?_eq_getElem?, List.getElem?_eq_getElem hl]
/-- exchanged, the longest row is as long as there were rows -/
theorem lng_exch {p : List (List Int)} (h : okP p) : lng (exch p) = p.length := by
  refine Nat.le_antisymm ?_ ?_
  · exact K44R.lng_bd fun r hr => by
      obtain ⟨k, _, rfl⟩ := List.mem_map.mp (K44R.trimBy_mem _ _ hr)
      exact Nat.le_trans (K44R.trimBy_len _ _) (by rw [List.length_map]; exact Nat.le_refl _)
  · by_cases e : p = []
    · subst e; exact Nat.zero_le _
    · obtain ⟨r, h1, h2, h3⟩ := last_some e
      have hr := h.2 r h1
      obtain ⟨c, g1, g2, g3⟩ := last_some hr
      have hc := h.1 r h3 c g1
      -- the number at the last row's end, looked for in the exchanged one
      have hco : co (exch p) (r.length - 1) (p.length - 1) = c := by
        rw [K44R.co_exch, K44R.co_rw]
        unfold rw'
        rw [List.getD_eq_getElem?_getD, h2]
        show g r (r.length - 1) = c
        unfold g
        rw [List.getD_eq_getElem?_getD, g2]
        rfl
      rw [K44R.co_rw] at hco
      refine Nat.le_of_not_lt fun lt => hc ?_
      rw [← hco]
      refine K44R.g_none ?_
      unfold rw'
      rw [List.getD_eq_getElem?_getD]
      cases ex : (exch p)[r.length - 1]? with
      | none => exact Nat.zero_le _
      | some s =>
        have := K44R.lng_le (List.mem_of_getElem? ex)
        show s.length ≤ _
        omega
theorem zero_trim {l : List Int} (h : trimI l = []) : ∀ n m : Int, T n m l = 0 := fun n m => by
  rw [T_trim, h]
  show 0 * _ = (0 : Int)
  rw [Int.zero_mul]
/-- the law's way to put a number for y -/
def lawY (p : List (List Int)) (n m : Int) : List (List Int) := if trimI ((List.range (lng p)).map fun k => T n m (colf p k)) = [] then [] else [trimI ((List.range (lng p)).map fun k => T n m (colf p k))]
theorem okP_lawY (p : List (List Int)) (n m : Int) : okP (lawY p n m) := by
  unfold lawY
  split
  · exact ⟨(fun r hr => nomatch hr), (fun r hr => nomatch hr)⟩
  · rename_i h
    exact ⟨fun r hr => by rw [List.mem_singleton.mp hr]; exact K44R.okR_trim _, fun r hr => by cases hr; exact h⟩
theorem col_out {p : List (List Int)} {k : Nat} (h : lng p ≤ k) : ∀ n m : Int, T n m (colf p k) = 0 := fun n m => by
  have key : ∀ q : List (List Int), (∀ r ∈ q, r.length ≤ k) → T n m (colf q k) = 0 := fun q => by
    induction q with
    | nil => intro _; rfl
    | cons r q ih =>
      intro hq
      show T n m (colf q k) * n + g r k * _ = 0
      rw [ih fun a m => hq a (by simp [m]), K44R.g_none (hq r (by simp))]
      simp
  exact key p fun r hr => Nat.le_trans (K44R.lng_le hr) h
theorem co_lawY (p : List (List Int)) (n m : Int) (i j : Nat) : co (lawY p n m) i j = if i = 0 then T n m (colf p j) else 0 := by
  have hg : g (trimI ((List.range (lng p)).map fun k => T n m (colf p k))) j = T n m (colf p j) := by
    rw [K44R.g_trim]
    exact K44R.getD_map_range _ _ _ _ fun h => col_out h n m
  unfold lawY
  split
  · rename_i h
    rw [h] at hg
    rw [K44R.co_none (Nat.zero_le _)]
    split
    · rw [← hg]; rfl
    · rfl
  · cases i with
    | zero => rw [if_pos rfl, ← hg]; rfl
    | succ i => rw [if_neg (by omega), K44R.co_none (by simp)]
theorem co_putX (q : List (List Int)) (n m : Int) (i j : Nat) : co (putX q n m) i j = if j = 0 then (if i < q.length then numAt n m (lng q) (rw' q i) else 0) else 0 := by
  rw [K44R.co_rw]
  unfold putX
  rw [K44R.rw_trim]
  unfold rw'
  rw [List.getD_eq_getElem?_getD, List.getElem?_map]
  unfold nums
  rw [List.getElem?_map]
  rcases Nat.lt_or_ge i q.length with c | c
  · rw [if_pos c, List.getElem?_eq_getElem c]
    show g (if numAt n m (lng q) q[i] = 0 then [] else [numAt n m (lng q) q[i]]) j = if j = 0 then numAt n m (lng q) (q.getD i []) else 0
    rw [List.getD_eq_getElem?_getD, List.getElem?_eq_getElem c]
    show _ = if j = 0 then numAt n m (lng q) q[i] else 0
    by_cases z : numAt n m (lng q) q[i] = 0
    · rw [if_pos z, z]
      split <;> rfl
    · rw [if_neg z]
      cases j with
      | zero => rfl
      | succ j => rfl
  · rw [List.getElem?_eq_none c]
    have hi : ¬ i < q.length := by omega
    show g [] j = if j = 0 then (if i < q.length then _ else 0) else 0
    rw [if_neg hi, K44R.g_none (Nat.zero_le _)]
    split <;> rfl
theorem putY_law {p : List (List Int)} (h : okP p) (n m : Int) : putY p n m = lawY p n m := by
  refine K44R.poly_ext (K44R.okP_exch _) (okP_lawY _ _ _) fun i j => ?_
  unfold putY
  rw [K44R.co_exch, co_putX, co_lawY]
  by_cases hi : i = 0
  · rw [if_pos hi, if_pos hi, lng_exch h]
    have hrow : rw' (exch p) j = trimI (colf p j) ∨ (rw' (exch p) j = [] ∧ trimI (colf p j) = []) := by
      by_cases hj : j < lng p
      · refine .inl ?_
        show rw' (trimP _) j = _
        rw [K44R.rw_trim]
        unfold rw'
        rw [List.getD_eq_getElem?_getD, List.getElem?_map, List.getElem?_range hj]
        rfl
      · refine .inr ⟨?_, ?_⟩
        · show rw' (trimP _) j = _
          rw [K44R.rw_trim]
          exact K44R.rw_none (by rw [List.length_map, List.length_range]; omega)
        · have h0 : ∀ c ∈ colf p j, c = 0 := fun c hc => by
            obtain ⟨r, hr, rfl⟩ := List.mem_map.mp hc
            exact K44R.g_none (Nat.le_trans (K44R.lng_le hr) (by omega))
          have := K44R.trimBy_take (fun c : Int => c == 0) (colf p j) 0 (Nat.zero_le _) (fun k c _ e => by rw [h0 c (List.mem_of_getElem? e)]; rfl) (.inl rfl)
          rw [show trimI (colf p j) = K44R.trimBy (fun c : Int => c == 0) (colf p j) from rfl, this, List.take_zero]
    have hrow : rw' (exch p) j = trimI (colf p j) := hrow.elim id fun ⟨a, b⟩ => a.trans b.symm
    have hl : (colf p j).length = p.length := by unfold colf; rw [List.length_map]
    split
    · unfold K44R.numAt
      rw [hrow, T_trim n m (colf p j), hl]
    · rename_i hge
      have : rw' (exch p) j = [] := K44R.rw_none (by omega)
      rw [hrow] at this
      rw [zero_trim this]
  · rw [if_neg hi, if_neg hi]
end K44

set_option Elab.async false
set_option linter.all false
set_option maxRecDepth 100000
set_option maxHeartbeats 8000000
namespace K44
open PySem PySem.Spec PyProof.Rows L2 Tw
open K44R (polyD okP okR exch lng T numAt nums co g rw' trimI trimP col)
/-! sayings changed -/
def Say.ex : Say → Say
  | .tt => .tt
  | .ff => .ff
  | .nn s => .nn s.ex
  | .bo b s t => .bo b s.ex t.ex
  | .qu al x s => .qu al (!x) s.ex
  | .re w p => .re w (exD p)
def Say.put (x : Bool) (n m : Int) : Say → Say
  | .tt => .tt
  | .ff => .ff
  | .nn s => .nn (s.put x n m)
  | .bo b s t => .bo b (s.put x n m) (t.put x n m)
  | .qu al y s => if y = x then .qu al y s else .qu al y (s.put x n m)
  | .re w p => .re w (putD x n m p)
def opp (w : Str) : Str := if w = "below" then "not below" else if w = "at" then "not at" else if w = "above" then "not above" else if w = "not below" then "below" else if w = "not at" then "at" else "above"
def Say.push : Bool → Say → Say
  | neg, .tt => if neg then .ff else .tt
  | neg, .ff => if neg then .tt else .ff
  | neg, .nn s => s.push (!neg)
  | neg, .bo b s t => .bo (b != neg) (s.push neg) (t.push neg)
  | neg, .qu al x s => .qu (al != neg) x (s.push neg)
  | neg, .re w p => .re (if neg then opp w else w) p
theorem ex_ok : ∀ {s : Say}, s.ok → s.ex.ok
  | .tt, _ => trivial
  | .ff, _ => trivial
  | .nn s, h => ex_ok (s := s) h
  | .bo _ s t, h => ⟨ex_ok (s := s) h.1, ex_ok (s := t) h.2⟩
  | .qu _ _ s, h => ex_ok (s := s) h
  | .re w p, h => ⟨h.1, ex_small h.2⟩
theorem ex_depth : ∀ s : Say, s.ex.depth = s.depth
  | .tt => rfl
  | .ff => rfl
  | .nn s => by show 1 + s.ex.depth = 1 + s.depth; rw [ex_depth s]
  | .bo _ s t => by show 1 + max s.ex.depth t.ex.depth = 1 + max s.depth t.depth; rw [ex_depth s, ex_depth t]
  | .qu _ _ s => by show 1 + s.ex.depth = 1 + s.depth; rw [ex_depth s]
  | .re _ _ => rfl
theorem ex_two : ∀ {s : Say}, s.ok → s.ex.ex = s
  | .tt, _ => rfl
  | .ff, _ => rfl
  | .nn s, h => by show Say.nn s.ex.ex = _; rw [ex_two (s := s) h]
  | .bo b s t, h => by show Say.bo b s.ex.ex t.ex.ex = _; rw [ex_two (s := s) h.1, ex_two (s := t) h.2]
  | .qu al x s, h => by show Say.qu al (!(!x)) s.ex.ex = _; rw [ex_two (s := s) h, Bool.not_not]
  | .re w p, h => by show Say.re w (exD (exD p)) = _; rw [exD_two h.2]
theorem put_ok {x : Bool} {n m : Int} : ∀ {s : Say}, s.ok → (s.put x n m).ok
  | .tt, _ => trivial
  | .ff, _ => trivial
  | .nn s, h => put_ok (s := s) h
  | .bo _ s t, h => ⟨put_ok (s := s) h.1, put_ok (s := t) h.2⟩
  | .qu al y s, h => by
    show (if y = x then Say.qu al y s else Say.qu al y (s.put x n m)).ok
    split
    · exact h
    · exact put_ok (s := s) h
  | .re w p, h => ⟨h.1, put_small h.2⟩
theorem opp_rel : ∀ w ∈ rels, opp w ∈ rels := by decide
theorem push_ok : ∀ {s : Say} (neg : Bool), s.ok → (s.push neg).ok
  | .tt, neg, _ => by cases neg <;> trivial
  | .ff, neg, _ => by cases neg <;> trivial
  | .nn s, neg, h => push_ok (s := s) (!neg) h
  | .bo _ s t, neg, h => ⟨push_ok (s := s) neg h.1, push_ok (s := t) neg h.2⟩
  | .qu _ _ s, neg, h => push_ok (s := s) neg h
  | .re w p, neg, h => by
    refine ⟨?_, h.2⟩
    show (if neg then opp w else w) ∈ rels
    split
    · exact opp_rel w h.1
    · exact h.1
theorem push_depth : ∀ (s : Say) (neg : Bool), (s.push neg).depth ≤ s.depth
  | .tt, neg => by cases neg <;> exact Nat.le_refl _
  | .ff, neg => by cases neg <;> exact Nat.le_refl _
  | .nn s, neg => by
    have := push_depth s (!neg)
    show (s.push (!neg)).depth ≤ 1 + s.depth
    omega
  | .bo b s t, neg => by
    have := push_depth s neg
    have := push_depth t neg
    show 1 + max (s.push neg).depth (t.push neg).depth ≤ 1 + max s.depth t.depth
    omega
  | .qu al x s, neg => by
    have := push_depth s neg
    show 1 + (s.push neg).depth ≤ 1 + s.depth
    omega
  | .re w p, neg => Nat.le_refl _
/-! how many unlike POLYs -/
def Say.leaves : Say → List PyData
  | .nn s => s.leaves
  | .bo _ s t => s.leaves ++ t.leaves
  | .qu _ _ s => s.leaves
  | .re _ p => [p]
  | _ => []
theorem un_mem2 {A B : List PyData} (hA : ∀ p ∈ A, isK p = true) (hB : ∀ p ∈ B, isK p = true) {p : PyData} : p ∈ un A B ↔ p ∈ A ∨ p ∈ B := by
  refine ⟨un_mem, fun h => ?_⟩
  unfold un
  rcases h with h | h
  · exact List.mem_append_left _ h
  · by_cases k : inK A p = true
    · unfold inK at k
      obtain ⟨q, hq, e⟩ := List.mem_map.mp (of_decide_eq_true k)
      rw [← nk_inj (hA q hq) (hB p h) e]
      exact List.mem_append_left _ hq
    · exact List.mem_append_right _ (List.mem_filter.mpr ⟨h, by cases hk : inK A p with | true => exact absurd hk k | false => rfl⟩)
theorem polys_isK {s : Say} (h : s.ok) : ∀ p ∈ s.polys, isK p = true := fun p m => (small_k (Say.polys_small h p m)).1
theorem polys_leaves : ∀ {s : Say} {p : PyData}, s.ok → (p ∈ s.polys ↔ p ∈ s.leaves)
  | .tt, _, _ => Iff.rfl
  | .ff, _, _ => Iff.rfl
  | .nn s, _, h => polys_leaves (s := s) h
  | .bo _ s t, p, h => by
    show p ∈ un s.polys t.polys ↔ p ∈ s.leaves ++ t.leaves
    rw [un_mem2 (polys_isK h.1) (polys_isK h.2), List.mem_append, polys_leaves (s := s) h.1, polys_leaves (s := t) h.2]
  | .qu _ _ s, _, h => polys_leaves (s := s) h
  | .re _ _, _, _ => Iff.rfl
theorem nodup_len {α : Type} : ∀ {l m : List α}, l.Nodup → (∀ x ∈ l, x ∈ m) → l.length ≤ m.length
  | [], _, _, _ => Nat.zero_le _
  | x :: l, m, hn, h => by
    obtain ⟨a, b, rfl⟩ := List.append_of_mem (h x (by simp))
    rw [List.nodup_cons] at hn
    have := nodup_len (l := l) (m := a ++ b) hn.2 fun y hy => by
      have := h y (by simp [hy])
      rw [List.mem_append] at this ⊢
      rcases this with g | g
      · exact .inl g
      · rcases List.mem_cons.mp g with rfl | g
        · exact absurd hy hn.1
        · exact .inr g
    rw [List.length_cons, List.length_append, List.length_cons]
    rw [List.length_append] at this
    omega
theorem polys_map {s t : Say} (f : PyData → PyData) (hs : s.ok) (ht : t.ok) (e : t.leaves = s.leaves.map f) : t.polys.length ≤ s.polys.length := by
  rw [← List.length_map (f := f) (as := s.polys)]
  refine nodup_len (Say.polys_nodup t) fun q hq => ?_
  have hq := (polys_leaves ht).mp hq
  rw [e] at hq
  obtain ⟨p, hp, rfl⟩ := List.mem_map.mp hq
  exact List.mem_map_of_mem ((polys_leaves hs).mpr hp)
theorem ex_leaves : ∀ s : Say, s.ex.leaves = s.leaves.map exD
  | .tt => rfl
  | .ff => rfl
  | .nn s => ex_leaves s
  | .bo _ s t => by show s.ex.leaves ++ t.ex.leaves = (s.leaves ++ t.leaves).map exD; rw [ex_leaves s, ex_leaves t, List.map_append]
  | .qu _ _ s => ex_leaves s
  | .re _ _ => rfl
theorem push_leaves : ∀ (s : Say) (neg : Bool), (s.push neg).leaves = s.leaves.map id
  | .tt, neg => by cases neg <;> rfl
  | .ff, neg => by cases neg <;> rfl
  | .nn s, neg => push_leaves s (!neg)
  | .bo _ s t, neg => by show (s.push neg).leaves ++ (t.push neg).leaves = (s.leaves ++ t.leaves).map id; rw [push_leaves s, push_leaves t, List.map_append]
  | .qu _ _ s, neg => push_leaves s neg
  | .re _ _, _ => rfl
theorem ex_many {s : Say} (h : s.ok) : s.ex.polys.length ≤ s.polys.length := polys_map exD h (ex_ok h) (ex_leaves s)
theorem push_many {s : Say} (neg : Bool) (h : s.ok) : (s.push neg).polys.length ≤ s.polys.length := polys_map id h (push_ok neg h) (push_leaves s neg)
/-! pure data -/
mutual
def pureT : PyData → Bool
  | .list _ => false
  | .dict _ => false
  | .tuple ds => pureA ds
  | _ => true
def pureA : List PyData → Bool
  | [] => true
  | d :: ds => pureT d && pureA ds
end
mutual
theorem da_pure {a : Addr} {H H' : Hp} (k : ∀ b xs, b ≠ a → H b = some (.tup xs) → H' b = some (.tup xs)) : ∀ {v : V} {d : PyData}, Da a H v d → pureT d = true → Da a H' v d
  | _, _, .non, _ => .non
  | _, _, .bl b, _ => .bl b
  | _, _, .int i, _ => .int i
  | _, _, .str x, _ => .str x
  | _, _, .lst n h t, p => by simp [pureT] at p
  | _, _, .tup n h t, p => by
    rw [pureT] at p
    exact .tup n (k _ _ n h) (das_pure k t p)
  | _, _, .dct n h, p => by simp [pureT] at p
theorem das_pure {a : Addr} {H H' : Hp} (k : ∀ b xs, b ≠ a → H b = some (.tup xs) → H' b = some (.tup xs)) : ∀ {vs : List V} {ds : List PyData}, DaAll a H vs ds → pureA ds = true → DaAll a H' vs ds
  | _, _, .nil, _ => .nil
  | _, _, .cons h t, p => by
    rw [pureA, Bool.and_eq_true] at p
    exact .cons (da_pure k h p.1) (das_pure k t p.2)
end
mutual
theorem isK_pure : ∀ {d : PyData}, isK d = true → pureT d = true
  | .int _, _ => by simp [pureT]
  | .str _, _ => by simp [pureT]
  | .none, _ => by simp [pureT]
  | .tuple ds, h => by
    rw [isK] at h
    rw [pureT]
    exact isK1_pure h
  | .bool _, h => by simp [isK] at h
  | .list _, h => by simp [isK] at h
  | .dict _, h => by simp [isK] at h
theorem isK1_pure : ∀ {ds : List PyData}, isK1 ds = true → pureA ds = true
  | [], _ => by simp [pureA]
  | d :: ds, h => by
    rw [isK1, Bool.and_eq_true] at h
    rw [pureA, isK_pure h.1, isK1_pure h.2]
    rfl
end
theorem say_pure : ∀ {s : Say}, s.ok → pureT s.d = true
  | .tt, _ => by decide
  | .ff, _ => by decide
  | .nn s, h => by rw [Say.d, pureT, pureA, pureA, pureA, say_pure (s := s) h]; rfl
  | .bo _ s t, h => by rw [Say.d, pureT, pureA, pureA, pureA, pureA, say_pure (s := s) h.1, say_pure (s := t) h.2]; rfl
  | .qu _ _ s, h => by rw [Say.d, pureT, pureA, pureA, pureA, pureA, say_pure (s := s) h]; rfl
  | .re _ p, h => by rw [Say.d, pureT, pureA, pureA, pureA, isK_pure (small_k h.2).1]; rfl
/-! POLYs in memory -/
theorem das_nums {a : Addr} {H : Hp} : ∀ {ms : List Int} {ys : List V}, DaAll a H ys (ms.map PyData.int) → ys = ms.map V.int
  | [], _, h => by cases h; rfl
  | m :: ms, _, h => by
    cases h with
    | cons h1 h2 => cases h1; rw [das_nums (ms := ms) h2]; rfl
theorem po_of {a : Addr} {H : Hp} {v : V} {p : List (List Int)} (h : Da a H v (polyD p)) : K44R.Po H v p := by
  obtain ⟨q, xs, rfl, nq, hq, hx⟩ := da_tup h
  refine ⟨q, xs, rfl, hq, by rw [hx.len, List.length_map], fun i v e => ?_⟩
  obtain ⟨d, e1, e2⟩ := hx.get e
  rw [List.getElem?_map] at e1
  cases er : p[i]? with
  | none => rw [er] at e1; cases e1
  | some r =>
    rw [er] at e1
    cases e1
    obtain ⟨b, ys, rfl, nb, hb, hy⟩ := da_tup e2
    have := das_nums hy
    subst this
    exact ⟨r, rfl, b, rfl, hb⟩
end K44

set_option Elab.async false
set_option linter.all false
set_option maxRecDepth 100000
set_option maxHeartbeats 8000000
local macro_rules | `(tactic| walk_at "rd") => `(tactic| dsimp only [Evl.tCut, L2.tSeq, L2.tNext, L2.tRet, L2.tRetN, L2.tAsg, L2.gName, L2.tIfS, L2.tDrop, L2.tCons, L2.tNil, L2.tC, L2.tVar, L2.tCB, L2.tAndV, L2.tOrV, L2.tNotV, L2.tB, L2.tTest, L2.tOp, L2.tUn, L2.tNot, L2.tAnd, L2.tOr, L2.tIf, L2.tCall, L2.tTup, L2.tLst, L2.tNotT, L2.tYes, L2.gTup, L2.gCons, L2.gNil, L2.gSub, L2.tBM0, L2.tBM, L2.tWhile, L2.tFor, L2.iRng1, L2.iRng2, L2.tAugS, Tw.iEnumT, L2.tCKw, L2.tAug, L2.ipI, RT.iRevA, L2.tPar, L2.tPar3, L2.tSl, L2.tNoPart, L2.tPart, Tw.tRevT, Tw.tFput])
namespace K44
open PySem PySem.Spec PyProof.Rows L2 Tw
open K44R (polyD okP okR exch lng T numAt nums co g rw' trimI trimP col Ro RoA Po Pr Bd)
theorem T_leW {n m : Int} {X B : Nat} (hn : n.natAbs ≤ X) (hm : m.natAbs ≤ X) (hX : 1 ≤ X) : ∀ r : List Int, (∀ c ∈ r, c.natAbs ≤ B) → (T n m r).natAbs ≤ B * (2 * X) ^ r.length
  | [], _ => Nat.zero_le _
  | c :: r, h => by
    have ih := T_leW hn hm hX r fun a ha => h a (by simp [ha])
    have hc := h c (by simp)
    show (T n m r * n + c * m ^ r.length).natAbs ≤ _
    have h1 : (T n m r * n).natAbs ≤ B * (2 * X) ^ r.length * X := by rw [Int.natAbs_mul]; exact Nat.mul_le_mul ih hn
    have h2 : (c * m ^ r.length).natAbs ≤ B * X ^ r.length := by
      rw [Int.natAbs_mul, Int.natAbs_pow]
      exact Nat.mul_le_mul hc (Nat.pow_le_pow_left hm _)
    have h3 : X ^ r.length ≤ (2 * X) ^ r.length := Nat.pow_le_pow_left (by omega) _
    have h4 : B * X ^ r.length ≤ B * (2 * X) ^ r.length * X := by
      refine Nat.le_trans (Nat.mul_le_mul_left B h3) ?_
      exact Nat.le_mul_of_pos_right _ hX
    have h5 := Int.natAbs_add_le (T n m r * n) (c * m ^ r.length)
    rw [List.length_cons, Nat.pow_succ]
    have e : B * ((2 * X) ^ r.length * (2 * X)) = B * (2 * X) ^ r.length * X + B * (2 * X) ^ r.length * X := by
      rw [← Nat.mul_assoc, show 2 * X = X + X by omega, Nat.mul_add]
    omega
theorem bd_any {p : List (List Int)} {n : Nat} (h1 : p.length ≤ n) (h2 : ∀ r ∈ p, r.length ≤ n) : ∃ b, Bd n b p := by
  refine ⟨((p).flatMap fun r => r.map Int.natAbs).sum, h1, fun r hr => ⟨h2 r hr, fun c hc => ?_⟩⟩
  have key : ∀ (l : List Nat) (x : Nat), x ∈ l → x ≤ l.sum := fun l => by
    induction l with
    | nil => intro x m; cases m
    | cons a l ih =>
      intro x m
      rw [List.sum_cons]
      rcases List.mem_cons.mp m with rfl | m
      · omega
      · have := ih x m; omega
  exact key _ _ (List.mem_flatMap.mpr ⟨r, hr, List.mem_map_of_mem hc⟩)
theorem wid_lng (p : List (List Int)) : widD (polyD p) = lng p := by
  show (p.map K44R.rowD).foldr (fun r m => max (lenD r) m) 0 = lng p
  induction p with
  | nil => rfl
  | cons r p ih =>
    rw [List.map_cons, List.foldr_cons, ih]
    show max ((r.map PyData.int).length) (lng p) = max r.length (lng p)
    rw [List.length_map]
def tTrK (K : PySem.W.Frag) (ta : TE) : TT := fun σ H Q => ta σ H fun x H' => ∃ k, TruV K x H' k ∧ Q k H'
theorem pt_truK {X : Cx} {a : Expr} {ta : TE} (K : PySem.W.Frag) (hK : X.K = K) (ha : PE X a ta) (he : ∀ whole, isTrue a X.env whole = (do let v ← whole; standAt a.pos; holding [v] (truthy v))) : PT X a (tTrK K ta) := by
  subst hK
  exact pt_truth ha he
/-- in x, in either letter -/
def spPutX : Sp := fun vs H Q _ => ∃ (a : Addr) (u f : V) (p : List (List Int)) (n m : Int), vs = [u, .str "x", f] ∧ We a H ∧ Po H u p ∧ Pr H f n m ∧ p.length ≤ 5 ∧ (∀ r ∈ p, r.length ≤ 5 ∧ ∀ c ∈ r, c.natAbs < 2 ^ 100) ∧ n.natAbs < 2 ^ 24 ∧ 0 < m ∧ m < 2 ^ 24 ∧ ∀ v H', Same H H' → Po H' v (putX p n m) → Q v H'
def spPPut : Sp := fun vs H Q _ => ∃ (a : Addr) (u f : V) (x : Bool) (p : List (List Int)) (n m : Int), vs = [u, .str (if x then "x" else "y"), f] ∧ We a H ∧ Po H u p ∧ Pr H f n m ∧ p.length ≤ 5 ∧ (∀ r ∈ p, r.length ≤ 5 ∧ ∀ c ∈ r, c.natAbs < 2 ^ 100) ∧ n.natAbs < 2 ^ 24 ∧ 0 < m ∧ m < 2 ^ 24 ∧ ∀ v H', Same H H' → Po H' v (if x then putX p n m else putY p n m) → Q v H'
section
variable {P : Program} {w : World} {K : PySem.W.Frag} {mg : Str → Option Value} {base : Heap}
theorem scPPut : FnScope ["poly", "letter", "fraction", "n", "m", "longest", "numbers", "row", "number"] ["poly", "letter", "fraction"] (defScope sPPut) := ⟨rfl, rfl, rfl, by decide +kernel, rfl, by decide +kernel, by decide +kernel⟩
theorem ok_putX (D : Def K mg "poly_put" sPPut ["poly", "letter", "fraction"]) (nb : Nb mg) (cW : Cal P w K mg base "width_in_x" 1 ["poly"] spWid) (cS : Cal P w K mg base "scaled_value" 1 ["row", "n", "m"] K44R.spScaled) (cP : Cal P w K mg base "power" 1 ["base", "many"] K44R.spPower) (cT : Cal P w K mg base "poly_trimmed" 1 ["rows"] K44R.spTP) : Cal P w K mg base "poly_put" 3 ["poly", "letter", "fraction"] spPutX := by
  refine D.ok scPPut (fun vs H Q E h => ?_) (fun f cdv A out s H vs Q E hr h => ?_)
  · obtain ⟨a, u, fr, p, n, m, rfl, _⟩ := h; rfl
  obtain ⟨a, u, fr, p, n, m, rfl, hw, hp, hf, hl, hrow, hn, m0, m1, q⟩ := h
  refine ⟨_, (pss_cons (ps_if (pt_cmpR op_eq (pv 1) pe_str (nomark _)) pss_dead pss_nil)
    (pss_cons (ps_asg (pv 2) (pg_tup rfl (pgs_cons (pg_name (i := 3) scPPut.nd rfl (Or.inr rfl)) (pgs_cons (pg_name (i := 4) scPPut.nd rfl (Or.inr rfl)) pgs_nil))))
    (pss_cons (ps_set (i := 5) scPPut.nd rfl (Or.inr rfl) (pe_cal cW hr (by omega) (by rfl) (pa_cons (pv 0) pa_nil)))
    (pss_cons (ps_setLc (i := 6) (own := [("row", 7)]) (g := gName 7) (tt := tYes) rfl scPPut.nd rfl rfl (by rfl) (pi_tup (pv 0)) (blkOk_by (N := ["poly", "letter", "fraction", "n", "m", "longest", "numbers", "row", "number"]) (sc := defScope sPPut) (by decide +kernel)) (fun _ _ _ _ _ => pg_name (i := 7) scPPut.nd rfl (Or.inl rfl)) (fun _ _ _ _ _ => pts_nil) (fun _ _ _ _ _ => (pe_op op_mulW (pe_cal cS hr (by omega) (by rfl) (pa_cons (pv 7) (pa_cons (pv 3) (pa_cons (pv 4) pa_nil)))) (pe_cal cP hr (by omega) (by rfl) (pa_cons (pv 4) (pa_cons (pe_op op_sub (pv 5) (pe_callB (id := "len") (r := rLn K) call_len_seq (by rfl) nb.len PySem.boot_len (pa_cons (pv 7) pa_nil))) pa_nil))))))
    (pss_one (ps_ret (pe_cal cT hr (by omega) (by rfl) (pa_cons (pe_lc (own := [("number", 8)]) (g := gName 8) (tt := tYes) rfl scPPut.nd (pi_list (pv 6)) (blkOk_by (N := ["poly", "letter", "fraction", "n", "m", "longest", "numbers", "row", "number"]) (sc := defScope sPPut) (by decide +kernel)) (fun _ _ _ _ _ => pg_name (i := 8) scPPut.nd rfl (Or.inl rfl)) (fun _ _ _ _ _ => pts_nil) (fun _ _ _ _ _ => (pe_ifExp (pt_truK K rfl (pv 8) (fun _ => rfl)) (pe_tup (pa_cons (pv 8) pa_nil)) (pe_tup pa_nil)))) pa_nil)))))))), ?_⟩
  walk_at "rd"
  obtain ⟨pu, xs, rfl, eu, hx⟩ := hp
  obtain ⟨pf, rfl, ef⟩ := hf
  have dp : Da a H (.ref pu) (polyD p) := K44R.da_poly hw ⟨pu, xs, rfl, eu, hx⟩
  refine ⟨.str "x", rfl, rfl, _, rfl, ?_⟩
  rw [show decide (V.str ("x" : Str) = V.str "y") = false from by decide]
  refine iteF ⟨_, rfl, pf, _, rfl, SqT.of ef, rfl, _, _, rfl, _, _, rfl, rfl, ?_⟩
  refine ⟨.ref pu, rfl, a, .ref pu, p.map K44R.rowD, rfl, dp, by rw [List.length_map]; omega, fun e he => ?_, fun H1 s1 => ?_⟩
  · obtain ⟨r, _, rfl⟩ := List.mem_map.mp he
    rfl
  rw [show widD (.tuple (p.map K44R.rowD)) = lng p from wid_lng p]
  have hx1 := RoA.kt (K44R.Kt.of s1) hx
  have eu1 := s1 _ _ eu
  refine K44R.lc_relT (S := Ro) (R := fun _ v k => v = V.int k) (g := numAt n m (lng p)) (rs := p) (p := pu) (xs := xs) K44R.stable_ro (K44R.stable_eq _) rfl eu1 hx1 (by omega) (fun x => K44R.wipeJ _ _ _) (fun x r H2 hr2 s2 rx Z hZ => ?_) fun D ys H2 s2 nD eD ry => ?_
  · obtain ⟨r5, rc⟩ := hrow r hr2
    have hlr := K44R.lng_le hr2
    have l5 : lng p ≤ 5 := K44R.lng_bd fun r hr => (hrow r hr).1
    refine ⟨x, rfl, .int n, rfl, .int m, rfl, x, r, n, m, rfl, rx, hn, m0, m1, by omega, rc, fun H3 s3 => ?_⟩
    obtain ⟨pr, rfl, er⟩ := rx
    refine ⟨.int m, rfl, .int (lng p : Int), rfl, .ref pr, rfl, pr, _, rfl, .inr (SqT.of (s3 _ _ er)), _, _, rfl, rfl, m, lng p - r.length, ?_, m0, m1, by omega, fun H4 s4 => ⟨_, _, rfl, rfl, ?_, ?_⟩⟩
    · rw [List.length_map]
      have : ((lng p - r.length : Nat) : Int) = (lng p : Int) - (r.length : Int) := by omega
      rw [this]
      rfl
    · have t1 := T_leW (n := n) (m := m) (X := 2 ^ 24) (B := 2 ^ 100) (by omega) (by omega) (by decide) r fun c hc => Nat.le_of_lt (rc c hc)
      have t2 : (2 ^ 100) * (2 * 2 ^ 24) ^ r.length ≤ 2 ^ 100 * (2 * 2 ^ 24) ^ 5 := Nat.mul_le_mul_left _ (Nat.pow_le_pow_right (by decide) r5)
      have t3 : (2 ^ 100 * (2 * 2 ^ 24) ^ 5 : Nat) = 2 ^ 225 := by decide
      have t4 := K44R.pow_leW m0 m1 (k := lng p - r.length) (by omega)
      have t5 := K44R.pow_pos' m0 (lng p - r.length)
      exact K44R.cmulW (by omega) (by omega)
    · exact hZ _ _ (s3.trans s4) rfl
  have ey : ys = (nums n m p).map V.int := K44R.RelA.eq_map ry
  subst ey
  have s12 := s1.trans s2
  refine K44R.lc_relL (S := fun _ v k => v = V.int k) (R := Ro) (g := fun v : Int => if v = 0 then [] else [v]) (rs := nums n m p) (p := D) (xs := (nums n m p).map V.int) (K44R.stable_eq _) K44R.stable_ro rfl eD (K44R.RelA.of_map _) (by unfold K44R.nums; rw [List.length_map]; omega) (fun x => K44R.wipeJ _ _ _) (fun x c H3 hc s3 ex Z hZ => ?_) fun L ys H3 s3 nL eL rL => ?_
  · subst ex
    refine ⟨.int c, rfl, _, rfl, ?_⟩
    by_cases z : c = 0
    · subst z
      exact iteF ⟨sz (by decide), fun t nt => hZ _ _ (same_new nt) ⟨t, rfl, upd_same⟩⟩
    · rw [show (c != 0) = true from bne_iff_ne.mpr z]
      refine iteT ⟨.int c, rfl, sz (by simp), fun t nt => hZ _ _ (same_new nt) ?_⟩
      rw [if_neg z]
      exact ⟨t, rfl, upd_same⟩
  · exact ⟨L, ys, _, rfl, eL, rL, fun v H4 s4 p4 => q v H4 ((s12.trans s3).trans s4) p4⟩
end
end K44

set_option Elab.async false
set_option linter.all false
set_option maxRecDepth 100000
set_option maxHeartbeats 8000000
local macro_rules | `(tactic| walk_at "rd") => `(tactic| dsimp only [Evl.tCut, L2.tSeq, L2.tNext, L2.tRet, L2.tRetN, L2.tAsg, L2.gName, L2.tIfS, L2.tDrop, L2.tCons, L2.tNil, L2.tC, L2.tVar, L2.tCB, L2.tAndV, L2.tOrV, L2.tNotV, L2.tB, L2.tTest, L2.tOp, L2.tUn, L2.tNot, L2.tAnd, L2.tOr, L2.tIf, L2.tCall, L2.tTup, L2.tLst, L2.tNotT, L2.tYes, L2.gTup, L2.gCons, L2.gNil, L2.gSub, L2.tBM0, L2.tBM, L2.tWhile, L2.tFor, L2.iRng1, L2.iRng2, L2.tAugS, Tw.iEnumT, L2.tCKw, L2.tAug, L2.ipI, RT.iRevA, L2.tPar, L2.tPar3, L2.tSl, L2.tNoPart, L2.tPart, Tw.tRevT, Tw.tFput])
namespace K44
open PySem PySem.Spec PyProof.Rows L2 Tw
open K44R (polyD okP okR exch lng T numAt nums co g rw' trimI trimP col Ro RoA Po Pr Bd)
theorem lf_poly {b : Nat} {p : List (List Int)} (h : lf b (polyD p) = true) : ∀ r ∈ p, ∀ c ∈ r, c.natAbs ≤ b := fun r hr c hc => by
  have h1 : lf1 b (p.map K44R.rowD) = true := by
    have : lf b (.tuple (p.map K44R.rowD)) = true := h
    rwa [lf] at this
  have h2 := lf1_mem h1 (List.mem_map_of_mem hr)
  have h2 : lf b (.tuple (r.map PyData.int)) = true := h2
  rw [lf] at h2
  have h3 := lf1_mem h2 (List.mem_map_of_mem hc)
  rw [lf] at h3
  exact of_decide_eq_true h3
/-- numbers of the sayings that are drawn -/
def LB : Nat := 10 ^ 20 + 1000
/-- more constants -/
structure Ct (K : PySem.W.Frag) (w : World) (mg : Str → Option Value) : Prop where
  oth : ∃ d, mg "OTHER" = some (.ref d) ∧ KDct K w d "x" (.str "y") ∧ KDct K w d "y" (.str "x")
  opp : ∃ d, mg "OPPOSITE" = some (.ref d) ∧ KDct K w d "true" (.str "false") ∧ KDct K w d "false" (.str "true") ∧ KDct K w d "both" (.str "either") ∧ KDct K w d "either" (.str "both") ∧ KDct K w d "all" (.str "some") ∧ KDct K w d "some" (.str "all") ∧ ∀ z ∈ rels, KDct K w d z (.str (opp z))
def spSEx (N : Nat) : Sp := fun vs H Q _ => ∃ (a : Addr) (v : V) (s : Say), vs = [v] ∧ We a H ∧ Da a H v s.d ∧ s.ok ∧ s.depth ≤ N ∧ ∀ v' H', Same H H' → Da a H' v' s.ex.d → Q v' H'
def spSPut (N : Nat) : Sp := fun vs H Q _ => ∃ (a : Addr) (v f : V) (s : Say) (x : Bool) (n m : Int), vs = [v, .str (if x then "x" else "y"), f] ∧ We a H ∧ Da a H v s.d ∧ s.ok ∧ s.depth ≤ N ∧ lf LB s.d = true ∧ Pr H f n m ∧ n.natAbs < 2 ^ 24 ∧ 0 < m ∧ m < 2 ^ 24 ∧ ∀ v' H', Same H H' → Da a H' v' (s.put x n m).d → Q v' H'
def spSPush (N : Nat) : Sp := fun vs H Q _ => ∃ (a : Addr) (v : V) (s : Say) (neg : Bool), vs = [v, .bl neg] ∧ We a H ∧ Da a H v s.d ∧ s.ok ∧ s.depth ≤ N ∧ ∀ v' H', Same H H' → Da a H' v' (s.push neg).d → Q v' H'
section
variable {P : Program} {w : World} {K : PySem.W.Frag} {mg : Str → Option Value} {base : Heap}
theorem ok_pput (D : Def K mg "poly_put" sPPut ["poly", "letter", "fraction"]) (nb : Nb mg) (cW : Cal P w K mg base "width_in_x" 1 ["poly"] spWid) (cS : Cal P w K mg base "scaled_value" 1 ["row", "n", "m"] K44R.spScaled) (cP : Cal P w K mg base "power" 1 ["base", "many"] K44R.spPower) (cT : Cal P w K mg base "poly_trimmed" 1 ["rows"] K44R.spTP)
    (cE : Cal P w K mg base "poly_exchanged" 2 ["poly"] K44R.spExch) (cX : Cal P w K mg base "poly_put" 3 ["poly", "letter", "fraction"] spPutX) : Cal P w K mg base "poly_put" 4 ["poly", "letter", "fraction"] spPPut := by
  refine D.ok scPPut (fun vs H Q E h => ?_) (fun f cdv A out s H vs Q E hr h => ?_)
  · obtain ⟨a, u, fr, x, p, n, m, rfl, _⟩ := h; rfl
  obtain ⟨a, u, fr, x, p, n, m, rfl, hw, hp, hf, hl, hrow, hn, m0, m1, q⟩ := h
  refine ⟨_, (pss_cons (ps_if (pt_cmpR op_eq (pv 1) pe_str (nomark _)) (pss_one (ps_ret (pe_cal cE hr (by omega) (by rfl) (pa_cons (pe_cal cX hr (by omega) (by rfl) (pa_cons (pe_cal cE hr (by omega) (by rfl) (pa_cons (pv 0) pa_nil)) (pa_cons pe_str (pa_cons (pv 2) pa_nil)))) pa_nil)))) pss_nil)
    (pss_cons (ps_asg (pv 2) (pg_tup rfl (pgs_cons (pg_name (i := 3) scPPut.nd rfl (Or.inr rfl)) (pgs_cons (pg_name (i := 4) scPPut.nd rfl (Or.inr rfl)) pgs_nil))))
    (pss_cons (ps_set (i := 5) scPPut.nd rfl (Or.inr rfl) (pe_cal cW hr (by omega) (by rfl) (pa_cons (pv 0) pa_nil)))
    (pss_cons (ps_setLc (i := 6) (own := [("row", 7)]) (g := gName 7) (tt := tYes) rfl scPPut.nd rfl rfl (by rfl) (pi_tup (pv 0)) (blkOk_by (N := ["poly", "letter", "fraction", "n", "m", "longest", "numbers", "row", "number"]) (sc := defScope sPPut) (by decide +kernel)) (fun _ _ _ _ _ => pg_name (i := 7) scPPut.nd rfl (Or.inl rfl)) (fun _ _ _ _ _ => pts_nil) (fun _ _ _ _ _ => (pe_op op_mulW (pe_cal cS hr (by omega) (by rfl) (pa_cons (pv 7) (pa_cons (pv 3) (pa_cons (pv 4) pa_nil)))) (pe_cal cP hr (by omega) (by rfl) (pa_cons (pv 4) (pa_cons (pe_op op_sub (pv 5) (pe_callB (id := "len") (r := rLn K) call_len_seq (by rfl) nb.len PySem.boot_len (pa_cons (pv 7) pa_nil))) pa_nil))))))
    (pss_one (ps_ret (pe_cal cT hr (by omega) (by rfl) (pa_cons (pe_lc (own := [("number", 8)]) (g := gName 8) (tt := tYes) rfl scPPut.nd (pi_list (pv 6)) (blkOk_by (N := ["poly", "letter", "fraction", "n", "m", "longest", "numbers", "row", "number"]) (sc := defScope sPPut) (by decide +kernel)) (fun _ _ _ _ _ => pg_name (i := 8) scPPut.nd rfl (Or.inl rfl)) (fun _ _ _ _ _ => pts_nil) (fun _ _ _ _ _ => (pe_ifExp (pt_truK K rfl (pv 8) (fun _ => rfl)) (pe_tup (pa_cons (pv 8) pa_nil)) (pe_tup pa_nil)))) pa_nil)))))))), ?_⟩
  walk_at "rd"
  cases x with
  | false =>
    have q : ∀ v H', Same H H' → Po H' v (putY p n m) → Q v H' := q
    have b5 : Bd 5 (2 ^ 100 - 1) p := ⟨hl, fun r hr => ⟨(hrow r hr).1, fun c hc => by have := (hrow r hr).2 c hc; omega⟩⟩
    have b8 : ∀ {b : Nat} {p : List (List Int)}, Bd 5 b p → Bd 8 b p := fun h => ⟨by have := h.1; omega, fun r hr => ⟨by have := (h.2 r hr).1; omega, (h.2 r hr).2⟩⟩
    have be := K44R.bd_exch b5
    refine ⟨.str "y", rfl, rfl, _, rfl, iteT ⟨u, rfl, u, p, _, rfl, hp, b8 b5, fun v1 H1 s1 p1 => ⟨fr, rfl, a, v1, fr, exch p, n, m, rfl, hw.to s1, p1, hf.kt (K44R.Kt.of s1), be.1, fun r hr => ⟨(be.2 r hr).1, fun c hc => by have := (be.2 r hr).2 c hc; omega⟩, hn, m0, m1, fun v2 H2 s2 p2 => ?_⟩⟩⟩
    obtain ⟨g1, g2⟩ := putX_len (exch p) n m
    obtain ⟨b, hb⟩ := bd_any (p := putX (exch p) n m) (n := 5) (Nat.le_trans g1 be.1) fun r hr => Nat.le_trans (g2 r hr) (by decide)
    exact ⟨v2, _, b, rfl, p2, b8 hb, fun v3 H3 s3 p3 => q v3 H3 ((s1.trans s2).trans s3) p3⟩
  | true =>
    have q : ∀ v H', Same H H' → Po H' v (putX p n m) → Q v H' := q
    obtain ⟨pu, xs, rfl, eu, hx⟩ := hp
    obtain ⟨pf, rfl, ef⟩ := hf
    have dp : Da a H (.ref pu) (polyD p) := K44R.da_poly hw ⟨pu, xs, rfl, eu, hx⟩
    refine ⟨.str "x", rfl, rfl, _, rfl, ?_⟩
    rw [show decide (V.str ("x" : Str) = V.str "y") = false from by decide]
    refine iteF ⟨_, rfl, pf, _, rfl, SqT.of ef, rfl, _, _, rfl, _, _, rfl, rfl, ?_⟩
    refine ⟨.ref pu, rfl, a, .ref pu, p.map K44R.rowD, rfl, dp, by rw [List.length_map]; omega, fun e he => ?_, fun H1 s1 => ?_⟩
    · obtain ⟨r, _, rfl⟩ := List.mem_map.mp he
      rfl
    rw [show widD (.tuple (p.map K44R.rowD)) = lng p from wid_lng p]
    have hx1 := RoA.kt (K44R.Kt.of s1) hx
    have eu1 := s1 _ _ eu
    refine K44R.lc_relT (S := Ro) (R := fun _ v k => v = V.int k) (g := numAt n m (lng p)) (rs := p) (p := pu) (xs := xs) K44R.stable_ro (K44R.stable_eq _) rfl eu1 hx1 (by omega) (fun x => K44R.wipeJ _ _ _) (fun x r H2 hr2 s2 rx Z hZ => ?_) fun D ys H2 s2 nD eD ry => ?_
    · obtain ⟨r5, rc⟩ := hrow r hr2
      have hlr := K44R.lng_le hr2
      have l5 : lng p ≤ 5 := K44R.lng_bd fun r hr => (hrow r hr).1
      refine ⟨x, rfl, .int n, rfl, .int m, rfl, x, r, n, m, rfl, rx, hn, m0, m1, by omega, rc, fun H3 s3 => ?_⟩
      obtain ⟨pr, rfl, er⟩ := rx
      refine ⟨.int m, rfl, .int (lng p : Int), rfl, .ref pr, rfl, pr, _, rfl, .inr (SqT.of (s3 _ _ er)), _, _, rfl, rfl, m, lng p - r.length, ?_, m0, m1, by omega, fun H4 s4 => ⟨_, _, rfl, rfl, ?_, ?_⟩⟩
      · rw [List.length_map]
        have : ((lng p - r.length : Nat) : Int) = (lng p : Int) - (r.length : Int) := by omega
        rw [this]
        rfl
      · have t1 := T_leW (n := n) (m := m) (X := 2 ^ 24) (B := 2 ^ 100) (by omega) (by omega) (by decide) r fun c hc => Nat.le_of_lt (rc c hc)
        have t2 : (2 ^ 100) * (2 * 2 ^ 24) ^ r.length ≤ 2 ^ 100 * (2 * 2 ^ 24) ^ 5 := Nat.mul_le_mul_left _ (Nat.pow_le_pow_right (by decide) r5)
        have t3 : (2 ^ 100 * (2 * 2 ^ 24) ^ 5 : Nat) = 2 ^ 225 := by decide
        have t4 := K44R.pow_leW m0 m1 (k := lng p - r.length) (by omega)
        have t5 := K44R.pow_pos' m0 (lng p - r.length)
        exact K44R.cmulW (by omega) (by omega)
      · exact hZ _ _ (s3.trans s4) rfl
    have ey : ys = (nums n m p).map V.int := K44R.RelA.eq_map ry
    subst ey
    have s12 := s1.trans s2
    refine K44R.lc_relL (S := fun _ v k => v = V.int k) (R := Ro) (g := fun v : Int => if v = 0 then [] else [v]) (rs := nums n m p) (p := D) (xs := (nums n m p).map V.int) (K44R.stable_eq _) K44R.stable_ro rfl eD (K44R.RelA.of_map _) (by unfold K44R.nums; rw [List.length_map]; omega) (fun x => K44R.wipeJ _ _ _) (fun x c H3 hc s3 ex Z hZ => ?_) fun L ys H3 s3 nL eL rL => ?_
    · subst ex
      refine ⟨.int c, rfl, _, rfl, ?_⟩
      by_cases z : c = 0
      · subst z
        exact iteF ⟨sz (by decide), fun t nt => hZ _ _ (same_new nt) ⟨t, rfl, upd_same⟩⟩
      · rw [show (c != 0) = true from bne_iff_ne.mpr z]
        refine iteT ⟨.int c, rfl, sz (by simp), fun t nt => hZ _ _ (same_new nt) ?_⟩
        rw [if_neg z]
        exact ⟨t, rfl, upd_same⟩
    · exact ⟨L, ys, _, rfl, eL, rL, fun v H4 s4 p4 => q v H4 ((s12.trans s3).trans s4) p4⟩

theorem scSEx : FnScope ["saying", "word"] ["saying"] (defScope sSEx) := ⟨rfl, rfl, rfl, by decide +kernel, rfl, by decide +kernel, by decide +kernel⟩
theorem sex_step {N : Nat} (D : Def K mg "says_exchanged" sSEx ["saying"]) (ct : Ct K w mg) (cE : Cal P w K mg base "poly_exchanged" 2 ["poly"] K44R.spExch) (c : Cal P w K mg base "says_exchanged" (N + 3) ["saying"] (spSEx N)) : Cal P w K mg base "says_exchanged" (N + 4) ["saying"] (spSEx (N + 1)) := by
  obtain ⟨od, odg, odx, ody⟩ := ct.oth
  refine D.ok scSEx (fun vs H Q E h => ?_) (fun f cdv A out s H vs Q E hr h => ?_)
  · obtain ⟨a, v, t, rfl, _⟩ := h; rfl
  obtain ⟨a, v, t, rfl, hw, hd, ho, hN, q⟩ := h
  refine ⟨_, (pss_cons (ps_set (i := 1) scSEx.nd rfl (Or.inl rfl) (pe_ix (r := rIxT K) ix_tup (pv 0) pe_int (fun _ _ => rfl)))
    (pss_cons (ps_if (pt_cmpR op_in_seq (pv 1) (pe_tup (pa_cons pe_str (pa_cons pe_str pa_nil))) (by rfl)) (pss_one (ps_ret (pv 0))) pss_nil)
    (pss_cons (ps_if (pt_cmpR op_eq (pv 1) pe_str (nomark _)) (pss_one (ps_ret (pe_tup (pa_cons (pv 1) (pa_cons (pe_cal c hr (by omega) (by rfl) (pa_cons (pe_ix (r := rIxT K) ix_tup (pv 0) pe_int (fun _ _ => rfl)) pa_nil)) pa_nil))))) pss_nil)
    (pss_cons (ps_if (pt_cmpR op_eq (pv 1) pe_str (nomark _)) (pss_one (ps_ret (pe_tup (pa_cons (pv 1) (pa_cons (pe_ix (r := rIxD K w) ix_kdict (pe_glob (v := .ref od) (by rfl) odg rfl) (pe_ix (r := rIxT K) ix_tup (pv 0) pe_int (fun _ _ => rfl)) (fun _ _ => rfl)) (pa_cons (pe_ix (r := rIxT K) ix_tup (pv 0) pe_int (fun _ _ => rfl)) pa_nil)))))) pss_nil)
    (pss_cons (ps_if (pt_cmpR op_in_seq (pv 1) (pe_tup (pa_cons pe_str (pa_cons pe_str pa_nil))) (by rfl)) (pss_one (ps_ret (pe_tup (pa_cons (pv 1) (pa_cons (pe_cal c hr (by omega) (by rfl) (pa_cons (pe_ix (r := rIxT K) ix_tup (pv 0) pe_int (fun _ _ => rfl)) pa_nil)) (pa_cons (pe_cal c hr (by omega) (by rfl) (pa_cons (pe_ix (r := rIxT K) ix_tup (pv 0) pe_int (fun _ _ => rfl)) pa_nil)) pa_nil)))))) pss_nil)
    (pss_cons (ps_if (pt_cmpR op_in_seq (pv 1) (pe_tup (pa_cons pe_str (pa_cons pe_str pa_nil))) (by rfl)) (pss_one (ps_ret (pe_tup (pa_cons (pv 1) (pa_cons (pe_ix (r := rIxD K w) ix_kdict (pe_glob (v := .ref od) (by rfl) odg rfl) (pe_ix (r := rIxT K) ix_tup (pv 0) pe_int (fun _ _ => rfl)) (fun _ _ => rfl)) (pa_cons (pe_cal c hr (by omega) (by rfl) (pa_cons (pe_ix (r := rIxT K) ix_tup (pv 0) pe_int (fun _ _ => rfl)) pa_nil)) pa_nil)))))) pss_nil)
    (pss_one (ps_ret (pe_tup (pa_cons (pv 1) (pa_cons (pe_cal cE hr (by omega) (by rfl) (pa_cons (pe_ix (r := rIxT K) ix_tup (pv 0) pe_int (fun _ _ => rfl)) pa_nil)) pa_nil))))))))))), ?_⟩
  walk_at "rd"
  cases t with
  | tt =>
    refine ⟨v, rfl, ix_at (n := 0) hd rfl fun x hx => ?_⟩
    cases hx
    exact ⟨.str _, rfl, in_new (l := ["true", "false"]) rfl (by decide) fun H2 s2 => iteT ⟨v, rfl, q v H2 s2 (hd.same s2)⟩⟩
  | ff =>
    refine ⟨v, rfl, ix_at (n := 0) hd rfl fun x hx => ?_⟩
    cases hx
    exact ⟨.str _, rfl, in_new (l := ["true", "false"]) rfl (by decide) fun H2 s2 => iteT ⟨v, rfl, q v H2 s2 (hd.same s2)⟩⟩
  | nn u =>
    rw [depth_nn] at hN
    refine ⟨v, rfl, ix_at (n := 0) hd rfl fun x hx => ?_⟩
    cases hx
    refine ⟨.str _, rfl, in_new (l := ["true", "false"]) rfl (by decide) fun H2 s2 => iteF ⟨.str _, rfl, rfl, _, rfl, iteT ⟨.str _, rfl, v, rfl, ix_at (n := 1) (hd.same s2) rfl fun x hx => ⟨a, x, u, rfl, hw.to s2, hx, ho, by omega, fun v1 H3 s3 d1 => ⟨sz (by simp), fun p np => ?_⟩⟩⟩⟩⟩
    have w3 := (hw.to s2).to s3
    obtain ⟨s4, d4⟩ := newT w3.some (DaAll.cons (.str "not") (.cons d1 .nil)) np
    exact q _ _ ((s2.trans s3).trans s4) d4
  | bo b u u2 =>
    rw [depth_bo] at hN
    cases b with
    | true =>
      refine ⟨v, rfl, ix_at (n := 0) hd rfl fun x hx => ?_⟩
      cases hx
      refine ⟨.str _, rfl, in_new (l := ["true", "false"]) rfl (by decide) fun H2 s2 => iteF ⟨.str _, rfl, rfl, _, rfl, iteF ⟨.str _, rfl, rfl, _, rfl, iteF ⟨.str _, rfl, in_new (l := ["both", "either"]) rfl (by decide) fun H3 s3 => iteT ?_⟩⟩⟩⟩
      have s3 := s2.trans s3
      refine ⟨.str _, rfl, v, rfl, ix_at (n := 1) (hd.same s3) rfl fun x hx => ⟨a, x, u, rfl, hw.to s3, hx, ho.1, by omega, fun v1 H4 s4 d1 => ⟨v, rfl, ix_at (n := 2) (hd.same (s3.trans s4)) rfl fun y hy => ⟨a, y, u2, rfl, hw.to (s3.trans s4), hy, ho.2, by omega, fun v2 H5 s5 d2 => ⟨sz (by simp), fun p np => ?_⟩⟩⟩⟩⟩
      have s5' := (s3.trans s4).trans s5
      obtain ⟨s6, d6⟩ := newT (hw.to s5').some (DaAll.cons (.str "both") (.cons (d1.same s5) (.cons d2 .nil))) np
      exact q _ _ (s5'.trans s6) d6
    | false =>
      refine ⟨v, rfl, ix_at (n := 0) hd rfl fun x hx => ?_⟩
      cases hx
      refine ⟨.str _, rfl, in_new (l := ["true", "false"]) rfl (by decide) fun H2 s2 => iteF ⟨.str _, rfl, rfl, _, rfl, iteF ⟨.str _, rfl, rfl, _, rfl, iteF ⟨.str _, rfl, in_new (l := ["both", "either"]) rfl (by decide) fun H3 s3 => iteT ?_⟩⟩⟩⟩
      have s3 := s2.trans s3
      refine ⟨.str _, rfl, v, rfl, ix_at (n := 1) (hd.same s3) rfl fun x hx => ⟨a, x, u, rfl, hw.to s3, hx, ho.1, by omega, fun v1 H4 s4 d1 => ⟨v, rfl, ix_at (n := 2) (hd.same (s3.trans s4)) rfl fun y hy => ⟨a, y, u2, rfl, hw.to (s3.trans s4), hy, ho.2, by omega, fun v2 H5 s5 d2 => ⟨sz (by simp), fun p np => ?_⟩⟩⟩⟩⟩
      have s5' := (s3.trans s4).trans s5
      obtain ⟨s6, d6⟩ := newT (hw.to s5').some (DaAll.cons (.str "either") (.cons (d1.same s5) (.cons d2 .nil))) np
      exact q _ _ (s5'.trans s6) d6
  | qu al x1 u =>
    rw [depth_qu] at hN
    have other : ∀ (H' : Hp) (R : VK), R (.str (if !x1 then "x" else "y")) H' → rIxD K w (.ref od) (.str (if x1 then "x" else "y")) H' R := fun H' R h => by
      cases x1 with
      | true => exact ⟨od, _, _, rfl, rfl, odx, h⟩
      | false => exact ⟨od, _, _, rfl, rfl, ody, h⟩
    cases al with
    | true =>
      refine ⟨v, rfl, ix_at (n := 0) hd rfl fun x hx => ?_⟩
      cases hx
      refine ⟨.str _, rfl, in_new (l := ["true", "false"]) rfl (by decide) fun H2 s2 => iteF ⟨.str _, rfl, rfl, _, rfl, iteF ⟨.str _, rfl, rfl, _, rfl, iteF ⟨.str _, rfl, in_new (l := ["both", "either"]) rfl (by decide) fun H3 s3 => iteF ⟨.str _, rfl, in_new (l := ["all", "some"]) rfl (by decide) fun H4 s4 => iteT ?_⟩⟩⟩⟩⟩
      have s4 := (s2.trans s3).trans s4
      refine ⟨.str _, rfl, v, rfl, ix_at (n := 1) (hd.same s4) rfl fun x hx => ?_⟩
      cases hx
      refine other _ _ ⟨v, rfl, ix_at (n := 2) (hd.same s4) rfl fun x hx => ⟨a, x, u, rfl, hw.to s4, hx, ho, by omega, fun v1 H5 s5 d1 => ⟨sz (by simp), fun p np => ?_⟩⟩⟩
      have s5 := s4.trans s5
      obtain ⟨s6, d6⟩ := newT (hw.to s5).some (DaAll.cons (.str "all") (.cons (.str _) (.cons d1 .nil))) np
      exact q _ _ (s5.trans s6) d6
    | false =>
      refine ⟨v, rfl, ix_at (n := 0) hd rfl fun x hx => ?_⟩
      cases hx
      refine ⟨.str _, rfl, in_new (l := ["true", "false"]) rfl (by decide) fun H2 s2 => iteF ⟨.str _, rfl, rfl, _, rfl, iteF ⟨.str _, rfl, rfl, _, rfl, iteF ⟨.str _, rfl, in_new (l := ["both", "either"]) rfl (by decide) fun H3 s3 => iteF ⟨.str _, rfl, in_new (l := ["all", "some"]) rfl (by decide) fun H4 s4 => iteT ?_⟩⟩⟩⟩⟩
      have s4 := (s2.trans s3).trans s4
      refine ⟨.str _, rfl, v, rfl, ix_at (n := 1) (hd.same s4) rfl fun x hx => ?_⟩
      cases hx
      refine other _ _ ⟨v, rfl, ix_at (n := 2) (hd.same s4) rfl fun x hx => ⟨a, x, u, rfl, hw.to s4, hx, ho, by omega, fun v1 H5 s5 d1 => ⟨sz (by simp), fun p np => ?_⟩⟩⟩
      have s5 := s4.trans s5
      obtain ⟨s6, d6⟩ := newT (hw.to s5).some (DaAll.cons (.str "some") (.cons (.str _) (.cons d1 .nil))) np
      exact q _ _ (s5.trans s6) d6
  | re wd pl =>
    refine ⟨v, rfl, ix_at (n := 0) hd rfl fun x hx => ?_⟩
    cases hx
    refine ⟨.str _, rfl, in_new (l := ["true", "false"]) rfl (by decide) fun H2 s2 => ?_⟩
    rw [rel_word ho.1 _ (by decide)]
    refine iteF ⟨.str _, rfl, rfl, _, rfl, ?_⟩
    rw [rel_not ho.1 (by decide)]
    refine iteF ⟨.str _, rfl, rfl, _, rfl, ?_⟩
    rw [show decide (V.str wd = V.str "form") = false from decide_eq_false fun e => by injection e with e; subst e; exact absurd ho.1 (by decide)]
    refine iteF ⟨.str _, rfl, in_new (l := ["both", "either"]) rfl (by decide) fun H3 s3 => ?_⟩
    rw [rel_word ho.1 _ (by decide)]
    refine iteF ⟨.str _, rfl, in_new (l := ["all", "some"]) rfl (by decide) fun H4 s4 => ?_⟩
    rw [rel_word ho.1 _ (by decide)]
    have s4 := (s2.trans s3).trans s4
    obtain ⟨g1, g2, g3, g4⟩ := small_un ho.2
    obtain ⟨b, hb⟩ := bd_any g3 g4
    refine iteF ⟨.str _, rfl, v, rfl, ix_at (n := 1) (hd.same s4) rfl fun x hx => ?_⟩
    have hx : Da a H4 x (polyD (unD pl)) := g1 ▸ hx
    refine ⟨x, unD pl, b, rfl, po_of hx, ⟨by omega, fun r hr => ⟨by have := g4 r hr; omega, (hb.2 r hr).2⟩⟩, fun v1 H5 s5 p5 => ⟨sz (by simp), fun p np => ?_⟩⟩
    have s5 := s4.trans s5
    obtain ⟨s6, d6⟩ := newT (hw.to s5).some (DaAll.cons (.str wd) (.cons (K44R.da_poly (hw.to s5) p5) .nil)) np
    exact q _ _ (s5.trans s6) d6
theorem sex_all (D : Def K mg "says_exchanged" sSEx ["saying"]) (ct : Ct K w mg) (cE : Cal P w K mg base "poly_exchanged" 2 ["poly"] K44R.spExch) : ∀ N : Nat, Cal P w K mg base "says_exchanged" (N + 3) ["saying"] (spSEx N)
  | 0 => by
    have no : ∀ vs H Q E, ¬ spSEx 0 vs H Q E := fun vs H Q E h => by
      obtain ⟨a, v, s, _, _, _, _, h1, _⟩ := h
      have := s.depth_pos
      omega
    obtain ⟨f, fd, F, m, b⟩ := D
    exact ⟨f, fd, ⟨fun vs H Q E h => absurd h (no vs H Q E), fun A out s H g us vs Q E _ _ _ _ h => absurd h (no vs H Q E)⟩, m, F.kp, b, fdAt F⟩
  | N + 1 => sex_step D ct cE (sex_all D ct cE N)
end
end K44

set_option Elab.async false
set_option linter.all false
set_option maxRecDepth 100000
set_option maxHeartbeats 8000000
local macro_rules | `(tactic| walk_at "rd") => `(tactic| dsimp only [Evl.tCut, L2.tSeq, L2.tNext, L2.tRet, L2.tRetN, L2.tAsg, L2.gName, L2.tIfS, L2.tDrop, L2.tCons, L2.tNil, L2.tC, L2.tVar, L2.tCB, L2.tAndV, L2.tOrV, L2.tNotV, L2.tB, L2.tTest, L2.tOp, L2.tUn, L2.tNot, L2.tAnd, L2.tOr, L2.tIf, L2.tCall, L2.tTup, L2.tLst, L2.tNotT, L2.tYes, L2.gTup, L2.gCons, L2.gNil, L2.gSub, L2.tBM0, L2.tBM, L2.tWhile, L2.tFor, L2.iRng1, L2.iRng2, L2.tAugS, Tw.iEnumT, L2.tCKw, L2.tAug, L2.ipI, RT.iRevA, L2.tPar, L2.tPar3, L2.tSl, L2.tNoPart, L2.tPart, Tw.tRevT, Tw.tFput])
namespace K44
open PySem PySem.Spec PyProof.Rows L2 Tw
open K44R (polyD okP okR exch lng T numAt nums co g rw' trimI trimP col Ro RoA Po Pr Bd)
theorem lf_nn {b : Nat} {s : Say} (h : lf b (Say.nn s).d = true) : lf b s.d = true := by
  rw [Say.d, lf, lf1, lf1, Bool.and_eq_true, Bool.and_eq_true] at h
  exact h.2.1
theorem lf_bo {b : Nat} {c : Bool} {s t : Say} (h : lf b (Say.bo c s t).d = true) : lf b s.d = true ∧ lf b t.d = true := by
  rw [Say.d, lf, lf1, lf1, lf1, Bool.and_eq_true, Bool.and_eq_true, Bool.and_eq_true] at h
  exact ⟨h.2.1, h.2.2.1⟩
theorem lf_qu {b : Nat} {al x : Bool} {s : Say} (h : lf b (Say.qu al x s).d = true) : lf b s.d = true := by
  rw [Say.d, lf, lf1, lf1, lf1, Bool.and_eq_true, Bool.and_eq_true, Bool.and_eq_true] at h
  exact h.2.2.1
theorem lf_re {b : Nat} {w : Str} {p : PyData} (h : lf b (Say.re w p).d = true) : lf b p = true := by
  rw [Say.d, lf, lf1, lf1, Bool.and_eq_true, Bool.and_eq_true] at h
  exact h.2.1
theorem let_eq (y x : Bool) : decide (V.str (if y then ("x" : Str) else "y") = V.str (if x then ("x" : Str) else "y")) = (y == x) := by cases y <;> cases x <;> decide
section
variable {P : Program} {w : World} {K : PySem.W.Frag} {mg : Str → Option Value} {base : Heap}
theorem scSPut : FnScope ["saying", "letter", "fraction", "word"] ["saying", "letter", "fraction"] (defScope sSPut) := ⟨rfl, rfl, rfl, by decide +kernel, rfl, by decide +kernel, by decide +kernel⟩
theorem sput_step {N : Nat} (D : Def K mg "says_put" sSPut ["saying", "letter", "fraction"]) (cPP : Cal P w K mg base "poly_put" 4 ["poly", "letter", "fraction"] spPPut) (c : Cal P w K mg base "says_put" (N + 5) ["saying", "letter", "fraction"] (spSPut N)) : Cal P w K mg base "says_put" (N + 6) ["saying", "letter", "fraction"] (spSPut (N + 1)) := by
  refine D.ok scSPut (fun vs H Q E h => ?_) (fun f cdv A out s H vs Q E hr h => ?_)
  · obtain ⟨a, v, fr, t, x, n, m, rfl, _⟩ := h; rfl
  obtain ⟨a, v, fr, t, x, n, m, rfl, hw, hd, ho, hN, hlf, hf, hn, m0, m1, q⟩ := h
  refine ⟨_, (pss_cons (ps_set (i := 3) scSPut.nd rfl (Or.inl rfl) (pe_ix (r := rIxT K) ix_tup (pv 0) pe_int (fun _ _ => rfl)))
    (pss_cons (ps_if (PW.pt (pw_or (pt_cmpR op_in_seq (pv 3) (pe_tup (pa_cons pe_str (pa_cons pe_str pa_nil))) (by rfl)) (pw_or1 (PW.pt (pw_and (pt_cmpR op_in_seq (pv 3) (pe_tup (pa_cons pe_str (pa_cons pe_str pa_nil))) (by rfl)) (pw_and1 (pt_cmpR op_eq (pe_ix (r := rIxT K) ix_tup (pv 0) pe_int (fun _ _ => rfl)) (pv 1) (nomark _)))))))) (pss_one (ps_ret (pv 0))) pss_nil)
    (pss_cons (ps_if (pt_cmpR op_eq (pv 3) pe_str (nomark _)) (pss_one (ps_ret (pe_tup (pa_cons (pv 3) (pa_cons (pe_cal c hr (by omega) (by rfl) (pa_cons (pe_ix (r := rIxT K) ix_tup (pv 0) pe_int (fun _ _ => rfl)) (pa_cons (pv 1) (pa_cons (pv 2) pa_nil)))) pa_nil))))) pss_nil)
    (pss_cons (ps_if (pt_cmpR op_in_seq (pv 3) (pe_tup (pa_cons pe_str (pa_cons pe_str pa_nil))) (by rfl)) (pss_one (ps_ret (pe_tup (pa_cons (pv 3) (pa_cons (pe_cal c hr (by omega) (by rfl) (pa_cons (pe_ix (r := rIxT K) ix_tup (pv 0) pe_int (fun _ _ => rfl)) (pa_cons (pv 1) (pa_cons (pv 2) pa_nil)))) (pa_cons (pe_cal c hr (by omega) (by rfl) (pa_cons (pe_ix (r := rIxT K) ix_tup (pv 0) pe_int (fun _ _ => rfl)) (pa_cons (pv 1) (pa_cons (pv 2) pa_nil)))) pa_nil)))))) pss_nil)
    (pss_cons (ps_if (pt_cmpR op_in_seq (pv 3) (pe_tup (pa_cons pe_str (pa_cons pe_str pa_nil))) (by rfl)) (pss_one (ps_ret (pe_tup (pa_cons (pv 3) (pa_cons (pe_ix (r := rIxT K) ix_tup (pv 0) pe_int (fun _ _ => rfl)) (pa_cons (pe_cal c hr (by omega) (by rfl) (pa_cons (pe_ix (r := rIxT K) ix_tup (pv 0) pe_int (fun _ _ => rfl)) (pa_cons (pv 1) (pa_cons (pv 2) pa_nil)))) pa_nil)))))) pss_nil)
    (pss_one (ps_ret (pe_tup (pa_cons (pv 3) (pa_cons (pe_cal cPP hr (by omega) (by rfl) (pa_cons (pe_ix (r := rIxT K) ix_tup (pv 0) pe_int (fun _ _ => rfl)) (pa_cons (pv 1) (pa_cons (pv 2) pa_nil)))) pa_nil)))))))))), ?_⟩
  walk_at "rd"
  have hfs : ∀ {H'}, Same H H' → Pr H' fr n m := fun s => hf.kt (K44R.Kt.of s)
  cases t with
  | tt =>
    refine ⟨v, rfl, ix_at (n := 0) hd rfl fun y hy => ?_⟩
    cases hy
    exact ⟨.str _, rfl, in_new (l := ["true", "false"]) rfl (by decide) fun H2 s2 => iteT (iteT ⟨v, rfl, q v H2 s2 (hd.same s2)⟩)⟩
  | ff =>
    refine ⟨v, rfl, ix_at (n := 0) hd rfl fun y hy => ?_⟩
    cases hy
    exact ⟨.str _, rfl, in_new (l := ["true", "false"]) rfl (by decide) fun H2 s2 => iteT (iteT ⟨v, rfl, q v H2 s2 (hd.same s2)⟩)⟩
  | nn u =>
    rw [depth_nn] at hN
    refine ⟨v, rfl, ix_at (n := 0) hd rfl fun y hy => ?_⟩
    cases hy
    refine ⟨.str _, rfl, in_new (l := ["true", "false"]) rfl (by decide) fun H2 s2 => iteF ⟨.str _, rfl, in_new (l := ["all", "some"]) rfl (by decide) fun H3 s3 => iteF (iteF ⟨.str _, rfl, rfl, _, rfl, iteT ?_⟩)⟩⟩
    have s3 := s2.trans s3
    refine ⟨.str _, rfl, v, rfl, ix_at (n := 1) (hd.same s3) rfl fun y hy => ⟨.str _, rfl, fr, rfl, a, y, fr, u, x, n, m, rfl, hw.to s3, hy, ho, by omega, lf_nn hlf, hfs s3, hn, m0, m1, fun v1 H4 s4 d1 => ⟨sz (by simp), fun p np => ?_⟩⟩⟩
    obtain ⟨s5, d5⟩ := newT ((hw.to s3).to s4).some (DaAll.cons (.str "not") (.cons d1 .nil)) np
    exact q _ _ ((s3.trans s4).trans s5) d5
  | bo b u u2 =>
    rw [depth_bo] at hN
    obtain ⟨l1, l2⟩ := lf_bo hlf
    cases b with
    | true =>
      refine ⟨v, rfl, ix_at (n := 0) hd rfl fun y hy => ?_⟩
      cases hy
      refine ⟨.str _, rfl, in_new (l := ["true", "false"]) rfl (by decide) fun H2 s2 => iteF ⟨.str _, rfl, in_new (l := ["all", "some"]) rfl (by decide) fun H3 s3 => iteF (iteF ⟨.str _, rfl, rfl, _, rfl, iteF ⟨.str _, rfl, in_new (l := ["both", "either"]) rfl (by decide) fun H4 s4 => iteT ?_⟩⟩)⟩⟩
      have s4 := (s2.trans s3).trans s4
      refine ⟨.str _, rfl, v, rfl, ix_at (n := 1) (hd.same s4) rfl fun y hy => ⟨.str _, rfl, fr, rfl, a, y, fr, u, x, n, m, rfl, hw.to s4, hy, ho.1, by omega, l1, hfs s4, hn, m0, m1, fun v1 H5 s5 d1 => ?_⟩⟩
      have s45 := s4.trans s5
      refine ⟨v, rfl, ix_at (n := 2) (hd.same s45) rfl fun y hy => ⟨.str _, rfl, fr, rfl, a, y, fr, u2, x, n, m, rfl, hw.to s45, hy, ho.2, by omega, l2, hfs s45, hn, m0, m1, fun v2 H6 s6 d2 => ⟨sz (by simp), fun p np => ?_⟩⟩⟩
      have s46 := s45.trans s6
      obtain ⟨s7, d7⟩ := newT (hw.to s46).some (DaAll.cons (.str "both") (.cons (d1.same s6) (.cons d2 .nil))) np
      exact q _ _ (s46.trans s7) d7
    | false =>
      refine ⟨v, rfl, ix_at (n := 0) hd rfl fun y hy => ?_⟩
      cases hy
      refine ⟨.str _, rfl, in_new (l := ["true", "false"]) rfl (by decide) fun H2 s2 => iteF ⟨.str _, rfl, in_new (l := ["all", "some"]) rfl (by decide) fun H3 s3 => iteF (iteF ⟨.str _, rfl, rfl, _, rfl, iteF ⟨.str _, rfl, in_new (l := ["both", "either"]) rfl (by decide) fun H4 s4 => iteT ?_⟩⟩)⟩⟩
      have s4 := (s2.trans s3).trans s4
      refine ⟨.str _, rfl, v, rfl, ix_at (n := 1) (hd.same s4) rfl fun y hy => ⟨.str _, rfl, fr, rfl, a, y, fr, u, x, n, m, rfl, hw.to s4, hy, ho.1, by omega, l1, hfs s4, hn, m0, m1, fun v1 H5 s5 d1 => ?_⟩⟩
      have s45 := s4.trans s5
      refine ⟨v, rfl, ix_at (n := 2) (hd.same s45) rfl fun y hy => ⟨.str _, rfl, fr, rfl, a, y, fr, u2, x, n, m, rfl, hw.to s45, hy, ho.2, by omega, l2, hfs s45, hn, m0, m1, fun v2 H6 s6 d2 => ⟨sz (by simp), fun p np => ?_⟩⟩⟩
      have s46 := s45.trans s6
      obtain ⟨s7, d7⟩ := newT (hw.to s46).some (DaAll.cons (.str "either") (.cons (d1.same s6) (.cons d2 .nil))) np
      exact q _ _ (s46.trans s7) d7
  | qu al x1 u =>
    rw [depth_qu] at hN
    have l1 := lf_qu hlf
    have q1 : ∀ v' H', Same H H' → Da a H' v' (if x1 = x then Say.qu al x1 u else Say.qu al x1 (u.put x n m)).d → Q v' H' := q
    cases al with
    | true =>
      refine ⟨v, rfl, ix_at (n := 0) hd rfl fun y hy => ?_⟩
      cases hy
      refine ⟨.str _, rfl, in_new (l := ["true", "false"]) rfl (by decide) fun H2 s2 => iteF ⟨.str _, rfl, in_new (l := ["all", "some"]) rfl (by decide) fun H3 s3 => iteT ?_⟩⟩
      have s3 := s2.trans s3
      refine ⟨v, rfl, ix_at (n := 1) (hd.same s3) rfl fun y hy => ?_⟩
      cases hy
      refine ⟨.str _, rfl, rfl, _, rfl, ?_⟩
      rw [let_eq]
      by_cases e : x1 = x
      · subst e
        rw [show (x1 == x1) = true from by simp]
        have q1 : ∀ v' H', Same H H' → Da a H' v' (Say.qu true x1 u).d → Q v' H' := fun v' H' s z => q1 v' H' s (by rw [if_pos rfl]; exact z)
        exact iteT ⟨v, rfl, q1 v H3 s3 (hd.same s3)⟩
      · have q1 : ∀ v' H', Same H H' → Da a H' v' (Say.qu true x1 (u.put x n m)).d → Q v' H' := fun v' H' s z => q1 v' H' s (by rw [if_neg e]; exact z)
        rw [show (x1 == x) = false from by simpa using e]
        refine iteF ⟨.str _, rfl, rfl, _, rfl, iteF ⟨.str _, rfl, in_new (l := ["both", "either"]) rfl (by decide) fun H4 s4 => iteF ⟨.str _, rfl, in_new (l := ["all", "some"]) rfl (by decide) fun H5 s5 => iteT ?_⟩⟩⟩
        have s5 := (s3.trans s4).trans s5
        refine ⟨.str _, rfl, v, rfl, ix_at (n := 1) (hd.same s5) rfl fun y hy => ?_⟩
        cases hy
        refine ⟨v, rfl, ix_at (n := 2) (hd.same s5) rfl fun y hy => ⟨.str _, rfl, fr, rfl, a, y, fr, u, x, n, m, rfl, hw.to s5, hy, ho, by omega, l1, hfs s5, hn, m0, m1, fun v1 H6 s6 d1 => ⟨sz (by simp), fun p np => ?_⟩⟩⟩
        have s6 := s5.trans s6
        obtain ⟨s7, d7⟩ := newT (hw.to s6).some (DaAll.cons (.str "all") (.cons (.str _) (.cons d1 .nil))) np
        exact q1 _ _ (s6.trans s7) d7
    | false =>
      refine ⟨v, rfl, ix_at (n := 0) hd rfl fun y hy => ?_⟩
      cases hy
      refine ⟨.str _, rfl, in_new (l := ["true", "false"]) rfl (by decide) fun H2 s2 => iteF ⟨.str _, rfl, in_new (l := ["all", "some"]) rfl (by decide) fun H3 s3 => iteT ?_⟩⟩
      have s3 := s2.trans s3
      refine ⟨v, rfl, ix_at (n := 1) (hd.same s3) rfl fun y hy => ?_⟩
      cases hy
      refine ⟨.str _, rfl, rfl, _, rfl, ?_⟩
      rw [let_eq]
      by_cases e : x1 = x
      · subst e
        rw [show (x1 == x1) = true from by simp]
        have q1 : ∀ v' H', Same H H' → Da a H' v' (Say.qu false x1 u).d → Q v' H' := fun v' H' s z => q1 v' H' s (by rw [if_pos rfl]; exact z)
        exact iteT ⟨v, rfl, q1 v H3 s3 (hd.same s3)⟩
      · have q1 : ∀ v' H', Same H H' → Da a H' v' (Say.qu false x1 (u.put x n m)).d → Q v' H' := fun v' H' s z => q1 v' H' s (by rw [if_neg e]; exact z)
        rw [show (x1 == x) = false from by simpa using e]
        refine iteF ⟨.str _, rfl, rfl, _, rfl, iteF ⟨.str _, rfl, in_new (l := ["both", "either"]) rfl (by decide) fun H4 s4 => iteF ⟨.str _, rfl, in_new (l := ["all", "some"]) rfl (by decide) fun H5 s5 => iteT ?_⟩⟩⟩
        have s5 := (s3.trans s4).trans s5
        refine ⟨.str _, rfl, v, rfl, ix_at (n := 1) (hd.same s5) rfl fun y hy => ?_⟩
        cases hy
        refine ⟨v, rfl, ix_at (n := 2) (hd.same s5) rfl fun y hy => ⟨.str _, rfl, fr, rfl, a, y, fr, u, x, n, m, rfl, hw.to s5, hy, ho, by omega, l1, hfs s5, hn, m0, m1, fun v1 H6 s6 d1 => ⟨sz (by simp), fun p np => ?_⟩⟩⟩
        have s6 := s5.trans s6
        obtain ⟨s7, d7⟩ := newT (hw.to s6).some (DaAll.cons (.str "some") (.cons (.str _) (.cons d1 .nil))) np
        exact q1 _ _ (s6.trans s7) d7
  | re wd pl =>
    refine ⟨v, rfl, ix_at (n := 0) hd rfl fun y hy => ?_⟩
    cases hy
    refine ⟨.str _, rfl, in_new (l := ["true", "false"]) rfl (by decide) fun H2 s2 => ?_⟩
    rw [rel_word ho.1 _ (by decide)]
    refine iteF ⟨.str _, rfl, in_new (l := ["all", "some"]) rfl (by decide) fun H3 s3 => ?_⟩
    rw [rel_word ho.1 _ (by decide)]
    refine iteF (iteF ⟨.str _, rfl, rfl, _, rfl, ?_⟩)
    rw [rel_not ho.1 (by decide)]
    refine iteF ⟨.str _, rfl, in_new (l := ["both", "either"]) rfl (by decide) fun H4 s4 => ?_⟩
    rw [rel_word ho.1 _ (by decide)]
    refine iteF ⟨.str _, rfl, in_new (l := ["all", "some"]) rfl (by decide) fun H5 s5 => ?_⟩
    rw [rel_word ho.1 _ (by decide)]
    have s5 := ((s2.trans s3).trans s4).trans s5
    obtain ⟨g1, g2, g3, g4⟩ := small_un ho.2
    have lp := lf_poly (p := unD pl) (by rw [← g1]; exact lf_re hlf)
    refine iteF ⟨.str _, rfl, v, rfl, ix_at (n := 1) (hd.same s5) rfl fun y hy => ?_⟩
    have hy : Da a H5 y (polyD (unD pl)) := g1 ▸ hy
    refine ⟨.str _, rfl, fr, rfl, a, y, fr, x, unD pl, n, m, rfl, hw.to s5, po_of hy, hfs s5, g3, fun r hr => ⟨g4 r hr, fun k hk => ?_⟩, hn, m0, m1, fun v1 H6 s6 p6 => ⟨sz (by simp), fun p np => ?_⟩⟩
    · have := lp r hr k hk
      have e : LB = 10 ^ 20 + 1000 := rfl
      omega
    · have s6 := s5.trans s6
      have d6 := K44R.da_poly (hw.to s6) p6
      obtain ⟨s7, d7⟩ := newT (hw.to s6).some (DaAll.cons (.str wd) (.cons d6 .nil)) np
      exact q _ _ (s6.trans s7) d7
theorem sput_all (D : Def K mg "says_put" sSPut ["saying", "letter", "fraction"]) (cPP : Cal P w K mg base "poly_put" 4 ["poly", "letter", "fraction"] spPPut) : ∀ N : Nat, Cal P w K mg base "says_put" (N + 5) ["saying", "letter", "fraction"] (spSPut N)
  | 0 => by
    have no : ∀ vs H Q E, ¬ spSPut 0 vs H Q E := fun vs H Q E h => by
      obtain ⟨a, v, f, s, x, n, m, _, _, _, _, h1, _⟩ := h
      have := s.depth_pos
      omega
    obtain ⟨f, fd, F, m, b⟩ := D
    exact ⟨f, fd, ⟨fun vs H Q E h => absurd h (no vs H Q E), fun A out s H g us vs Q E _ _ _ _ h => absurd h (no vs H Q E)⟩, m, F.kp, b, fdAt F⟩
  | N + 1 => sput_step D cPP (sput_all D cPP N)
theorem scSPush : FnScope ["saying", "is_not", "word", "told"] ["saying", "is_not"] (defScope sSPush) := ⟨rfl, rfl, rfl, by decide +kernel, rfl, by decide +kernel, by decide +kernel⟩
theorem spush_step {N : Nat} (D : Def K mg "says_pushed" sSPush ["saying", "is_not"]) (ct : Ct K w mg) (c : Cal P w K mg base "says_pushed" (N + 1) ["saying", "is_not"] (spSPush N)) : Cal P w K mg base "says_pushed" (N + 2) ["saying", "is_not"] (spSPush (N + 1)) := by
  obtain ⟨od, odg, o1, o2, o3, o4, o5, o6, orl⟩ := ct.opp
  refine D.ok scSPush (fun vs H Q E h => ?_) (fun f cdv A out s H vs Q E hr h => ?_)
  · obtain ⟨a, v, t, neg, rfl, _⟩ := h; rfl
  obtain ⟨a, v, t, neg, rfl, hw, hd, ho, hN, q⟩ := h
  refine ⟨_, (pss_cons (ps_set (i := 2) scSPush.nd rfl (Or.inl rfl) (pe_ix (r := rIxT K) ix_tup (pv 0) pe_int (fun _ _ => rfl)))
    (pss_cons (ps_if (pt_cmpR op_eq (pv 2) pe_str (nomark _)) (pss_one (ps_ret (pe_cal c hr (by omega) (by rfl) (pa_cons (pe_ix (r := rIxT K) ix_tup (pv 0) pe_int (fun _ _ => rfl)) (pa_cons (pe_not (pv 1)) pa_nil))))) pss_nil)
    (pss_cons (ps_set (i := 3) scSPush.nd rfl (Or.inl rfl) (pe_ifExp (pt_val (pv 1)) (pe_ix (r := rIxD K w) ix_kdict (pe_glob (v := .ref od) (by rfl) odg rfl) (pv 2) (fun _ _ => rfl)) (pv 2)))
    (pss_cons (ps_if (pt_cmpR op_in_seq (pv 2) (pe_tup (pa_cons pe_str (pa_cons pe_str pa_nil))) (by rfl)) (pss_one (ps_ret (pe_tup (pa_cons (pv 3) (pa_cons (pe_cal c hr (by omega) (by rfl) (pa_cons (pe_ix (r := rIxT K) ix_tup (pv 0) pe_int (fun _ _ => rfl)) (pa_cons (pv 1) pa_nil))) (pa_cons (pe_cal c hr (by omega) (by rfl) (pa_cons (pe_ix (r := rIxT K) ix_tup (pv 0) pe_int (fun _ _ => rfl)) (pa_cons (pv 1) pa_nil))) pa_nil)))))) pss_nil)
    (pss_cons (ps_if (pt_cmpR op_in_seq (pv 2) (pe_tup (pa_cons pe_str (pa_cons pe_str pa_nil))) (by rfl)) (pss_one (ps_ret (pe_tup (pa_cons (pv 3) (pa_cons (pe_ix (r := rIxT K) ix_tup (pv 0) pe_int (fun _ _ => rfl)) (pa_cons (pe_cal c hr (by omega) (by rfl) (pa_cons (pe_ix (r := rIxT K) ix_tup (pv 0) pe_int (fun _ _ => rfl)) (pa_cons (pv 1) pa_nil))) pa_nil)))))) pss_nil)
    (pss_one (ps_ret (pe_op op_catA (pe_tup (pa_cons (pv 3) pa_nil)) (pe_slice sl_tupA (pv 0) (po_some pe_int) po_none))))))))), ?_⟩
  walk_at "rd"
  cases t with
  | tt =>
    refine ⟨v, rfl, ix_at (n := 0) hd rfl fun y hy => ?_⟩
    cases hy
    refine ⟨.str _, rfl, rfl, _, rfl, iteF ?_⟩
    cases neg with
    | true =>
      refine ⟨.bl true, rfl, true, rfl, iteT ⟨.str _, rfl, od, _, _, rfl, rfl, o1, ?_⟩⟩
      refine ⟨.str _, rfl, in_new (l := ["both", "either"]) rfl (by decide) fun H2 s2 => iteF ⟨.str _, rfl, in_new (l := ["all", "some"]) rfl (by decide) fun H3 s3 => iteF ?_⟩⟩
      have s3 := s2.trans s3
      refine ⟨.str _, rfl, sz (by simp), fun p np => ?_⟩
      obtain ⟨s6, d6⟩ := newT (hw.to s3).some (DaAll.cons (.str "false") .nil) np
      generalize upd H3 p _ = H6 at s6 d6 ⊢
      have s6 := s3.trans s6
      refine ⟨v, rfl, 1, rfl, sl_da (hw.to s6).some (hd.same s6) fun u9 H7 s7 d7 => ?_⟩
      rw [cut1] at d7
      exact cat_da ((hw.to s6).to s7).some (d6.same s7) d7 (by simp) fun v' H8 s8 d8 => q v' H8 ((s6.trans s7).trans s8) d8
    | false =>
      refine ⟨.bl false, rfl, false, rfl, iteF ⟨.str _, rfl, ?_⟩⟩
      refine ⟨.str _, rfl, in_new (l := ["both", "either"]) rfl (by decide) fun H2 s2 => iteF ⟨.str _, rfl, in_new (l := ["all", "some"]) rfl (by decide) fun H3 s3 => iteF ?_⟩⟩
      have s3 := s2.trans s3
      refine ⟨.str _, rfl, sz (by simp), fun p np => ?_⟩
      obtain ⟨s6, d6⟩ := newT (hw.to s3).some (DaAll.cons (.str "true") .nil) np
      generalize upd H3 p _ = H6 at s6 d6 ⊢
      have s6 := s3.trans s6
      refine ⟨v, rfl, 1, rfl, sl_da (hw.to s6).some (hd.same s6) fun u9 H7 s7 d7 => ?_⟩
      rw [cut1] at d7
      exact cat_da ((hw.to s6).to s7).some (d6.same s7) d7 (by simp) fun v' H8 s8 d8 => q v' H8 ((s6.trans s7).trans s8) d8
  | ff =>
    refine ⟨v, rfl, ix_at (n := 0) hd rfl fun y hy => ?_⟩
    cases hy
    refine ⟨.str _, rfl, rfl, _, rfl, iteF ?_⟩
    cases neg with
    | true =>
      refine ⟨.bl true, rfl, true, rfl, iteT ⟨.str _, rfl, od, _, _, rfl, rfl, o2, ?_⟩⟩
      refine ⟨.str _, rfl, in_new (l := ["both", "either"]) rfl (by decide) fun H2 s2 => iteF ⟨.str _, rfl, in_new (l := ["all", "some"]) rfl (by decide) fun H3 s3 => iteF ?_⟩⟩
      have s3 := s2.trans s3
      refine ⟨.str _, rfl, sz (by simp), fun p np => ?_⟩
      obtain ⟨s6, d6⟩ := newT (hw.to s3).some (DaAll.cons (.str "true") .nil) np
      generalize upd H3 p _ = H6 at s6 d6 ⊢
      have s6 := s3.trans s6
      refine ⟨v, rfl, 1, rfl, sl_da (hw.to s6).some (hd.same s6) fun u9 H7 s7 d7 => ?_⟩
      rw [cut1] at d7
      exact cat_da ((hw.to s6).to s7).some (d6.same s7) d7 (by simp) fun v' H8 s8 d8 => q v' H8 ((s6.trans s7).trans s8) d8
    | false =>
      refine ⟨.bl false, rfl, false, rfl, iteF ⟨.str _, rfl, ?_⟩⟩
      refine ⟨.str _, rfl, in_new (l := ["both", "either"]) rfl (by decide) fun H2 s2 => iteF ⟨.str _, rfl, in_new (l := ["all", "some"]) rfl (by decide) fun H3 s3 => iteF ?_⟩⟩
      have s3 := s2.trans s3
      refine ⟨.str _, rfl, sz (by simp), fun p np => ?_⟩
      obtain ⟨s6, d6⟩ := newT (hw.to s3).some (DaAll.cons (.str "false") .nil) np
      generalize upd H3 p _ = H6 at s6 d6 ⊢
      have s6 := s3.trans s6
      refine ⟨v, rfl, 1, rfl, sl_da (hw.to s6).some (hd.same s6) fun u9 H7 s7 d7 => ?_⟩
      rw [cut1] at d7
      exact cat_da ((hw.to s6).to s7).some (d6.same s7) d7 (by simp) fun v' H8 s8 d8 => q v' H8 ((s6.trans s7).trans s8) d8
  | nn u =>
    rw [depth_nn] at hN
    refine ⟨v, rfl, ix_at (n := 0) hd rfl fun y hy => ?_⟩
    cases hy
    exact ⟨.str _, rfl, rfl, _, rfl, iteT ⟨v, rfl, ix_at (n := 1) hd rfl fun y hy => ⟨.bl neg, rfl, neg, rfl, a, y, u, !neg, rfl, hw, hy, ho, by omega, fun v1 H1 s1 d1 => q v1 H1 s1 d1⟩⟩⟩
  | bo b u u2 =>
    rw [depth_bo] at hN
    cases b with
    | true =>
      refine ⟨v, rfl, ix_at (n := 0) hd rfl fun y hy => ?_⟩
      cases hy
      refine ⟨.str _, rfl, rfl, _, rfl, iteF ?_⟩
      cases neg with
      | true =>
        refine ⟨.bl true, rfl, true, rfl, iteT ⟨.str _, rfl, od, _, _, rfl, rfl, o3, ?_⟩⟩
        refine ⟨.str _, rfl, in_new (l := ["both", "either"]) rfl (by decide) fun H2 s2 => iteT ?_⟩
        refine ⟨.str _, rfl, v, rfl, ix_at (n := 1) (hd.same s2) rfl fun y hy => ⟨.bl true, rfl, a, y, u, true, rfl, hw.to s2, hy, ho.1, by omega, fun v1 H3 s3 d1 => ?_⟩⟩
        have s23 := s2.trans s3
        refine ⟨v, rfl, ix_at (n := 2) (hd.same s23) rfl fun y hy => ⟨.bl true, rfl, a, y, u2, true, rfl, hw.to s23, hy, ho.2, by omega, fun v2 H4 s4 d2 => ⟨sz (by simp), fun p np => ?_⟩⟩⟩
        have s24 := s23.trans s4
        obtain ⟨s5, d5⟩ := newT (hw.to s24).some (DaAll.cons (.str "either") (.cons (d1.same s4) (.cons d2 .nil))) np
        exact q _ _ (s24.trans s5) d5
      | false =>
        refine ⟨.bl false, rfl, false, rfl, iteF ⟨.str _, rfl, ?_⟩⟩
        refine ⟨.str _, rfl, in_new (l := ["both", "either"]) rfl (by decide) fun H2 s2 => iteT ?_⟩
        refine ⟨.str _, rfl, v, rfl, ix_at (n := 1) (hd.same s2) rfl fun y hy => ⟨.bl false, rfl, a, y, u, false, rfl, hw.to s2, hy, ho.1, by omega, fun v1 H3 s3 d1 => ?_⟩⟩
        have s23 := s2.trans s3
        refine ⟨v, rfl, ix_at (n := 2) (hd.same s23) rfl fun y hy => ⟨.bl false, rfl, a, y, u2, false, rfl, hw.to s23, hy, ho.2, by omega, fun v2 H4 s4 d2 => ⟨sz (by simp), fun p np => ?_⟩⟩⟩
        have s24 := s23.trans s4
        obtain ⟨s5, d5⟩ := newT (hw.to s24).some (DaAll.cons (.str "both") (.cons (d1.same s4) (.cons d2 .nil))) np
        exact q _ _ (s24.trans s5) d5
    | false =>
      refine ⟨v, rfl, ix_at (n := 0) hd rfl fun y hy => ?_⟩
      cases hy
      refine ⟨.str _, rfl, rfl, _, rfl, iteF ?_⟩
      cases neg with
      | true =>
        refine ⟨.bl true, rfl, true, rfl, iteT ⟨.str _, rfl, od, _, _, rfl, rfl, o4, ?_⟩⟩
        refine ⟨.str _, rfl, in_new (l := ["both", "either"]) rfl (by decide) fun H2 s2 => iteT ?_⟩
        refine ⟨.str _, rfl, v, rfl, ix_at (n := 1) (hd.same s2) rfl fun y hy => ⟨.bl true, rfl, a, y, u, true, rfl, hw.to s2, hy, ho.1, by omega, fun v1 H3 s3 d1 => ?_⟩⟩
        have s23 := s2.trans s3
        refine ⟨v, rfl, ix_at (n := 2) (hd.same s23) rfl fun y hy => ⟨.bl true, rfl, a, y, u2, true, rfl, hw.to s23, hy, ho.2, by omega, fun v2 H4 s4 d2 => ⟨sz (by simp), fun p np => ?_⟩⟩⟩
        have s24 := s23.trans s4
        obtain ⟨s5, d5⟩ := newT (hw.to s24).some (DaAll.cons (.str "both") (.cons (d1.same s4) (.cons d2 .nil))) np
        exact q _ _ (s24.trans s5) d5
      | false =>
        refine ⟨.bl false, rfl, false, rfl, iteF ⟨.str _, rfl, ?_⟩⟩
        refine ⟨.str _, rfl, in_new (l := ["both", "either"]) rfl (by decide) fun H2 s2 => iteT ?_⟩
        refine ⟨.str _, rfl, v, rfl, ix_at (n := 1) (hd.same s2) rfl fun y hy => ⟨.bl false, rfl, a, y, u, false, rfl, hw.to s2, hy, ho.1, by omega, fun v1 H3 s3 d1 => ?_⟩⟩
        have s23 := s2.trans s3
        refine ⟨v, rfl, ix_at (n := 2) (hd.same s23) rfl fun y hy => ⟨.bl false, rfl, a, y, u2, false, rfl, hw.to s23, hy, ho.2, by omega, fun v2 H4 s4 d2 => ⟨sz (by simp), fun p np => ?_⟩⟩⟩
        have s24 := s23.trans s4
        obtain ⟨s5, d5⟩ := newT (hw.to s24).some (DaAll.cons (.str "either") (.cons (d1.same s4) (.cons d2 .nil))) np
        exact q _ _ (s24.trans s5) d5
  | qu al x1 u =>
    rw [depth_qu] at hN
    cases al with
    | true =>
      refine ⟨v, rfl, ix_at (n := 0) hd rfl fun y hy => ?_⟩
      cases hy
      refine ⟨.str _, rfl, rfl, _, rfl, iteF ?_⟩
      cases neg with
      | true =>
        refine ⟨.bl true, rfl, true, rfl, iteT ⟨.str _, rfl, od, _, _, rfl, rfl, o5, ?_⟩⟩
        refine ⟨.str _, rfl, in_new (l := ["both", "either"]) rfl (by decide) fun H2 s2 => iteF ⟨.str _, rfl, in_new (l := ["all", "some"]) rfl (by decide) fun H3 s3 => iteT ?_⟩⟩
        have s3 := s2.trans s3
        refine ⟨.str _, rfl, v, rfl, ix_at (n := 1) (hd.same s3) rfl fun y hy => ?_⟩
        cases hy
        refine ⟨v, rfl, ix_at (n := 2) (hd.same s3) rfl fun y hy => ⟨.bl true, rfl, a, y, u, true, rfl, hw.to s3, hy, ho, by omega, fun v1 H4 s4 d1 => ⟨sz (by simp), fun p np => ?_⟩⟩⟩
        have s4 := s3.trans s4
        obtain ⟨s5, d5⟩ := newT (hw.to s4).some (DaAll.cons (.str "some") (.cons (.str _) (.cons d1 .nil))) np
        exact q _ _ (s4.trans s5) d5
      | false =>
        refine ⟨.bl false, rfl, false, rfl, iteF ⟨.str _, rfl, ?_⟩⟩
        refine ⟨.str _, rfl, in_new (l := ["both", "either"]) rfl (by decide) fun H2 s2 => iteF ⟨.str _, rfl, in_new (l := ["all", "some"]) rfl (by decide) fun H3 s3 => iteT ?_⟩⟩
        have s3 := s2.trans s3
        refine ⟨.str _, rfl, v, rfl, ix_at (n := 1) (hd.same s3) rfl fun y hy => ?_⟩
        cases hy
        refine ⟨v, rfl, ix_at (n := 2) (hd.same s3) rfl fun y hy => ⟨.bl false, rfl, a, y, u, false, rfl, hw.to s3, hy, ho, by omega, fun v1 H4 s4 d1 => ⟨sz (by simp), fun p np => ?_⟩⟩⟩
        have s4 := s3.trans s4
        obtain ⟨s5, d5⟩ := newT (hw.to s4).some (DaAll.cons (.str "all") (.cons (.str _) (.cons d1 .nil))) np
        exact q _ _ (s4.trans s5) d5
    | false =>
      refine ⟨v, rfl, ix_at (n := 0) hd rfl fun y hy => ?_⟩
      cases hy
      refine ⟨.str _, rfl, rfl, _, rfl, iteF ?_⟩
      cases neg with
      | true =>
        refine ⟨.bl true, rfl, true, rfl, iteT ⟨.str _, rfl, od, _, _, rfl, rfl, o6, ?_⟩⟩
        refine ⟨.str _, rfl, in_new (l := ["both", "either"]) rfl (by decide) fun H2 s2 => iteF ⟨.str _, rfl, in_new (l := ["all", "some"]) rfl (by decide) fun H3 s3 => iteT ?_⟩⟩
        have s3 := s2.trans s3
        refine ⟨.str _, rfl, v, rfl, ix_at (n := 1) (hd.same s3) rfl fun y hy => ?_⟩
        cases hy
        refine ⟨v, rfl, ix_at (n := 2) (hd.same s3) rfl fun y hy => ⟨.bl true, rfl, a, y, u, true, rfl, hw.to s3, hy, ho, by omega, fun v1 H4 s4 d1 => ⟨sz (by simp), fun p np => ?_⟩⟩⟩
        have s4 := s3.trans s4
        obtain ⟨s5, d5⟩ := newT (hw.to s4).some (DaAll.cons (.str "all") (.cons (.str _) (.cons d1 .nil))) np
        exact q _ _ (s4.trans s5) d5
      | false =>
        refine ⟨.bl false, rfl, false, rfl, iteF ⟨.str _, rfl, ?_⟩⟩
        refine ⟨.str _, rfl, in_new (l := ["both", "either"]) rfl (by decide) fun H2 s2 => iteF ⟨.str _, rfl, in_new (l := ["all", "some"]) rfl (by decide) fun H3 s3 => iteT ?_⟩⟩
        have s3 := s2.trans s3
        refine ⟨.str _, rfl, v, rfl, ix_at (n := 1) (hd.same s3) rfl fun y hy => ?_⟩
        cases hy
        refine ⟨v, rfl, ix_at (n := 2) (hd.same s3) rfl fun y hy => ⟨.bl false, rfl, a, y, u, false, rfl, hw.to s3, hy, ho, by omega, fun v1 H4 s4 d1 => ⟨sz (by simp), fun p np => ?_⟩⟩⟩
        have s4 := s3.trans s4
        obtain ⟨s5, d5⟩ := newT (hw.to s4).some (DaAll.cons (.str "some") (.cons (.str _) (.cons d1 .nil))) np
        exact q _ _ (s4.trans s5) d5
  | re wd pl =>
    refine ⟨v, rfl, ix_at (n := 0) hd rfl fun y hy => ?_⟩
    cases hy
    refine ⟨.str _, rfl, rfl, _, rfl, ?_⟩
    rw [rel_not ho.1 (by decide)]
    refine iteF ?_
    cases neg with
    | true =>
      refine ⟨.bl true, rfl, true, rfl, iteT ⟨.str _, rfl, od, _, _, rfl, rfl, orl wd ho.1, ?_⟩⟩
      refine ⟨.str _, rfl, in_new (l := ["both", "either"]) rfl (by decide) fun H2 s2 => ?_⟩
      rw [rel_word ho.1 _ (by decide)]
      refine iteF ⟨.str _, rfl, in_new (l := ["all", "some"]) rfl (by decide) fun H3 s3 => ?_⟩
      rw [rel_word ho.1 _ (by decide)]
      have s3 := s2.trans s3
      refine iteF ?_
      refine ⟨.str _, rfl, sz (by simp), fun p np => ?_⟩
      obtain ⟨s6, d6⟩ := newT (hw.to s3).some (DaAll.cons (.str (opp wd)) .nil) np
      generalize upd H3 p _ = H6 at s6 d6 ⊢
      have s6 := s3.trans s6
      refine ⟨v, rfl, 1, rfl, sl_da (hw.to s6).some (hd.same s6) fun u9 H7 s7 d7 => ?_⟩
      rw [cut1] at d7
      exact cat_da ((hw.to s6).to s7).some (d6.same s7) d7 (by simp) fun v' H8 s8 d8 => q v' H8 ((s6.trans s7).trans s8) d8
    | false =>
      refine ⟨.bl false, rfl, false, rfl, iteF ⟨.str _, rfl, ?_⟩⟩
      refine ⟨.str _, rfl, in_new (l := ["both", "either"]) rfl (by decide) fun H2 s2 => ?_⟩
      rw [rel_word ho.1 _ (by decide)]
      refine iteF ⟨.str _, rfl, in_new (l := ["all", "some"]) rfl (by decide) fun H3 s3 => ?_⟩
      rw [rel_word ho.1 _ (by decide)]
      have s3 := s2.trans s3
      refine iteF ?_
      refine ⟨.str _, rfl, sz (by simp), fun p np => ?_⟩
      obtain ⟨s6, d6⟩ := newT (hw.to s3).some (DaAll.cons (.str wd) .nil) np
      generalize upd H3 p _ = H6 at s6 d6 ⊢
      have s6 := s3.trans s6
      refine ⟨v, rfl, 1, rfl, sl_da (hw.to s6).some (hd.same s6) fun u9 H7 s7 d7 => ?_⟩
      rw [cut1] at d7
      exact cat_da ((hw.to s6).to s7).some (d6.same s7) d7 (by simp) fun v' H8 s8 d8 => q v' H8 ((s6.trans s7).trans s8) d8
theorem spush_all (D : Def K mg "says_pushed" sSPush ["saying", "is_not"]) (ct : Ct K w mg) : ∀ N : Nat, Cal P w K mg base "says_pushed" (N + 1) ["saying", "is_not"] (spSPush N)
  | 0 => by
    have no : ∀ vs H Q E, ¬ spSPush 0 vs H Q E := fun vs H Q E h => by
      obtain ⟨a, v, s, neg, _, _, _, _, h1, _⟩ := h
      have := s.depth_pos
      omega
    obtain ⟨f, fd, F, m, b⟩ := D
    exact ⟨f, fd, ⟨fun vs H Q E h => absurd h (no vs H Q E), fun A out s H g us vs Q E _ _ _ _ h => absurd h (no vs H Q E)⟩, m, F.kp, b, fdAt F⟩
  | N + 1 => spush_step D ct (spush_all D ct N)
end
end K44

set_option Elab.async false
set_option linter.all false
set_option maxRecDepth 100000
set_option maxHeartbeats 8000000
local macro_rules | `(tactic| walk_at "rd") => `(tactic| dsimp only [Evl.tCut, L2.tSeq, L2.tNext, L2.tRet, L2.tRetN, L2.tAsg, L2.gName, L2.tIfS, L2.tDrop, L2.tCons, L2.tNil, L2.tC, L2.tVar, L2.tCB, L2.tAndV, L2.tOrV, L2.tNotV, L2.tB, L2.tTest, L2.tOp, L2.tUn, L2.tNot, L2.tAnd, L2.tOr, L2.tIf, L2.tCall, L2.tTup, L2.tLst, L2.tNotT, L2.tYes, L2.gTup, L2.gCons, L2.gNil, L2.gSub, L2.tBM0, L2.tBM, L2.tWhile, L2.tFor, L2.iRng1, L2.iRng2, L2.tAugS, Tw.iEnumT, L2.tCKw, L2.tAug, L2.ipI, RT.iRevA, L2.tPar, L2.tPar3, L2.tSl, L2.tNoPart, L2.tPart, Tw.tRevT, Tw.tFput])
namespace K44
open PySem PySem.Spec PyProof.Rows L2 Tw
open K44R (polyD okP okR exch lng T numAt nums co g rw' trimI trimP col Ro RoA Po Pr Bd)
def spChkL : Sp := fun vs H Q _ => ∃ x : Bool, vs = [.str (if x then "x" else "y")] ∧ ∀ v H', Same H H' → Q v H'
def spChkF : Sp := fun vs H Q _ => ∃ (f : V) (n m : Int), vs = [f] ∧ Pr H f n m ∧ 0 < m ∧ Nat.gcd n.natAbs m.natAbs = 1 ∧ ∀ v H', Same H H' → Q v H'
/-- a saying that is handed in -/
def In (a : Addr) (H : Hp) (v : V) (s : Say) : Prop := We a H ∧ Da a H v s.d ∧ (∃ n, Sm n 1000 s.d) ∧ s.ok ∧ s.depth ≤ 10 ∧ s.polys.length ≤ 8
def spExchd : Sp := fun vs H Q _ => ∃ (a : Addr) (v : V) (s : Say), vs = [v] ∧ In a H v s ∧ ∀ v' H', Same H H' → Da a H' v' s.ex.d → Q v' H'
def spPushd : Sp := fun vs H Q _ => ∃ (a : Addr) (v : V) (s : Say), vs = [v] ∧ In a H v s ∧ ∀ v' H', Same H H' → Da a H' v' (s.push false).d → Q v' H'
def spPutFor : Sp := fun vs H Q _ => ∃ (a : Addr) (v f : V) (s : Say) (x : Bool) (n m : Int), vs = [v, .str (if x then "x" else "y"), f] ∧ In a H v s ∧ lf LB s.d = true ∧ Pr H f n m ∧ Nat.gcd n.natAbs m.natAbs = 1 ∧ n.natAbs < 2 ^ 24 ∧ 0 < m ∧ m < 2 ^ 24 ∧ ∀ v' H', Same H H' → Da a H' v' (s.put x n m).d → Q v' H'
theorem In.chk {a : Addr} {H : Hp} {v : V} {s : Say} {Q : VK} {E : XK} (h : In a H v s) (q : ∀ v' H', Same H H' → Q v' H') : spCheck [v] H Q E := by
  obtain ⟨h1, h2, ⟨n, h3⟩, h4, h5, h6⟩ := h
  exact ⟨a, v, s, n, rfl, h1.some, h2, h3, say_d h4, h5, h6, q⟩
theorem In.same {a : Addr} {H H' : Hp} {v : V} {s : Say} (h : In a H v s) (x : Same H H') : In a H' v s := ⟨h.1.to x, h.2.1.same x, h.2.2⟩
section
variable {P : Program} {w : World} {K : PySem.W.Frag} {mg : Str → Option Value} {base : Heap}
theorem scCheckL : FnScope ["letter"] ["letter"] (defScope sCheckL) := ⟨rfl, rfl, rfl, by decide +kernel, rfl, by decide +kernel, by decide +kernel⟩
theorem ok_checkL (D : Def K mg "check_letter" sCheckL ["letter"]) (c1 : Cal P w K mg base "is_letter" 1 ["value"] (spB letB)) : Cal P w K mg base "check_letter" 2 ["letter"] spChkL := by
  refine D.ok scCheckL (fun vs H Q E h => ?_) (fun f cdv A out s H vs Q E hr h => ?_)
  · obtain ⟨x, rfl, _⟩ := h; rfl
  obtain ⟨x, rfl, q⟩ := h
  refine ⟨_, pss_one (ps_if (pt_not (pt_val (pe_cal c1 hr (by omega) (by rfl) (pa_cons (pv 0) pa_nil)))) pss_dead pss_nil), ?_⟩
  walk_at "rd"
  refine ⟨_, rfl, 0, _, .str _, 0, rfl, .str _, ⟨Nat.zero_le _, Nat.zero_le _⟩, fun H1 s1 => ⟨_, rfl, ?_⟩⟩
  rw [show letB (.str (if x then ("x" : Str) else "y")) = true from by cases x <;> decide]
  exact iteF (q _ H1 s1)
theorem scCheckF : FnScope ["fraction"] ["fraction"] (defScope sCheckF) := ⟨rfl, rfl, rfl, by decide +kernel, rfl, by decide +kernel, by decide +kernel⟩
theorem ok_checkF (D : Def K mg "check_fraction" sCheckF ["fraction"]) (c1 : Cal P w K mg base "is_fraction" 2 ["value"] K44R.spFrac) : Cal P w K mg base "check_fraction" 3 ["fraction"] spChkF := by
  refine D.ok scCheckF (fun vs H Q E h => ?_) (fun f cdv A out s H vs Q E hr h => ?_)
  · obtain ⟨f, n, m, rfl, _⟩ := h; rfl
  obtain ⟨fr, n, m, rfl, hf, m0, hg, q⟩ := h
  refine ⟨_, pss_one (ps_if (pt_not (pt_val (pe_cal c1 hr (by omega) (by rfl) (pa_cons (pv 0) pa_nil)))) pss_dead pss_nil), ?_⟩
  walk_at "rd"
  exact ⟨fr, rfl, fr, n, m, rfl, hf, m0, hg, fun H1 s1 => ⟨true, rfl, iteF (q _ H1 s1)⟩⟩
theorem scExch : FnScope ["saying"] ["saying"] (defScope sExch) := ⟨rfl, rfl, rfl, by decide +kernel, rfl, by decide +kernel, by decide +kernel⟩
theorem ok_exch (D : Def K mg "exchanged" sExch ["saying"]) (cC : Cal P w K mg base "check_saying" 17 ["saying"] spCheck) (cS : Cal P w K mg base "says_exchanged" 13 ["saying"] (spSEx 10)) : Cal P w K mg base "exchanged" 18 ["saying"] spExchd := by
  refine D.ok scExch (fun vs H Q E h => ?_) (fun f cdv A out s H vs Q E hr h => ?_)
  · obtain ⟨a, v, s, rfl, _⟩ := h; rfl
  obtain ⟨a, v, t, rfl, hin, q⟩ := h
  refine ⟨_, (pss_cons (ps_expr (pe_cal cC hr (by omega) (by rfl) (pa_cons (pv 0) pa_nil)))
    (pss_one (ps_ret (pe_cal cS hr (by omega) (by rfl) (pa_cons (pv 0) pa_nil))))), ?_⟩
  walk_at "rd"
  refine ⟨v, rfl, hin.chk fun _ H1 s1 => ⟨v, rfl, ?_⟩⟩
  obtain ⟨h1, h2, _, h4, h5, _⟩ := hin.same s1
  exact ⟨a, v, t, rfl, h1, h2, h4, h5, fun v' H2 s2 d2 => q v' H2 (s1.trans s2) d2⟩
theorem scPushed : FnScope ["saying"] ["saying"] (defScope sPushed) := ⟨rfl, rfl, rfl, by decide +kernel, rfl, by decide +kernel, by decide +kernel⟩
theorem ok_pushed (D : Def K mg "pushed" sPushed ["saying"]) (cC : Cal P w K mg base "check_saying" 17 ["saying"] spCheck) (cS : Cal P w K mg base "says_pushed" 11 ["saying", "is_not"] (spSPush 10)) : Cal P w K mg base "pushed" 18 ["saying"] spPushd := by
  refine D.ok scPushed (fun vs H Q E h => ?_) (fun f cdv A out s H vs Q E hr h => ?_)
  · obtain ⟨a, v, s, rfl, _⟩ := h; rfl
  obtain ⟨a, v, t, rfl, hin, q⟩ := h
  refine ⟨_, (pss_cons (ps_expr (pe_cal cC hr (by omega) (by rfl) (pa_cons (pv 0) pa_nil)))
    (pss_one (ps_ret (pe_cal cS hr (by omega) (by rfl) (pa_cons (pv 0) (pa_cons pe_bl pa_nil)))))), ?_⟩
  walk_at "rd"
  refine ⟨v, rfl, hin.chk fun _ H1 s1 => ⟨v, rfl, ?_⟩⟩
  obtain ⟨h1, h2, _, h4, h5, _⟩ := hin.same s1
  exact ⟨a, v, t, false, rfl, h1, h2, h4, h5, fun v' H2 s2 d2 => q v' H2 (s1.trans s2) d2⟩
theorem scPutFor : FnScope ["saying", "letter", "fraction"] ["saying", "letter", "fraction"] (defScope sPutFor) := ⟨rfl, rfl, rfl, by decide +kernel, rfl, by decide +kernel, by decide +kernel⟩
theorem ok_putFor (D : Def K mg "put_for" sPutFor ["saying", "letter", "fraction"]) (cC : Cal P w K mg base "check_saying" 17 ["saying"] spCheck) (cL : Cal P w K mg base "check_letter" 2 ["letter"] spChkL) (cF : Cal P w K mg base "check_fraction" 3 ["fraction"] spChkF) (cS : Cal P w K mg base "says_put" 15 ["saying", "letter", "fraction"] (spSPut 10)) : Cal P w K mg base "put_for" 18 ["saying", "letter", "fraction"] spPutFor := by
  refine D.ok scPutFor (fun vs H Q E h => ?_) (fun f cdv A out s H vs Q E hr h => ?_)
  · obtain ⟨a, v, f, s, x, n, m, rfl, _⟩ := h; rfl
  obtain ⟨a, v, fr, t, x, n, m, rfl, hin, hlf, hf, hg, hn, m0, m1, q⟩ := h
  refine ⟨_, (pss_cons (ps_expr (pe_cal cC hr (by omega) (by rfl) (pa_cons (pv 0) pa_nil)))
    (pss_cons (ps_expr (pe_cal cL hr (by omega) (by rfl) (pa_cons (pv 1) pa_nil)))
    (pss_cons (ps_expr (pe_cal cF hr (by omega) (by rfl) (pa_cons (pv 2) pa_nil)))
    (pss_one (ps_ret (pe_cal cS hr (by omega) (by rfl) (pa_cons (pv 0) (pa_cons (pv 1) (pa_cons (pv 2) pa_nil))))))))), ?_⟩
  walk_at "rd"
  refine ⟨v, rfl, hin.chk fun _ H1 s1 => ⟨_, rfl, x, rfl, fun _ H2 s2 => ⟨fr, rfl, fr, n, m, rfl, hf.kt (K44R.Kt.of (s1.trans s2)), m0, hg, fun _ H3 s3 => ?_⟩⟩⟩
  have s13 := (s1.trans s2).trans s3
  obtain ⟨h1, h2, _, h4, h5, _⟩ := hin.same s13
  exact ⟨v, rfl, _, rfl, fr, rfl, a, v, fr, t, x, n, m, rfl, h1, h2, h4, h5, hlf, hf.kt (K44R.Kt.of s13), hn, m0, m1, fun v' H4 s4 d4 => q v' H4 (s13.trans s4) d4⟩
end
end K44

set_option Elab.async false
set_option linter.all false
set_option maxRecDepth 100000
set_option maxHeartbeats 8000000
local macro_rules | `(tactic| walk_at "rd") => `(tactic| dsimp only [Evl.tCut, L2.tSeq, L2.tNext, L2.tRet, L2.tRetN, L2.tAsg, L2.gName, L2.tIfS, L2.tDrop, L2.tCons, L2.tNil, L2.tC, L2.tVar, L2.tCB, L2.tAndV, L2.tOrV, L2.tNotV, L2.tB, L2.tTest, L2.tOp, L2.tUn, L2.tNot, L2.tAnd, L2.tOr, L2.tIf, L2.tCall, L2.tTup, L2.tLst, L2.tNotT, L2.tYes, L2.gTup, L2.gCons, L2.gNil, L2.gSub, L2.tBM0, L2.tBM, L2.tWhile, L2.tFor, L2.iRng1, L2.iRng2, L2.tAugS, Tw.iEnumT, L2.tCKw, L2.tAug, L2.ipI, RT.iRevA, L2.tPar, L2.tPar3, L2.tSl, L2.tNoPart, L2.tPart, Tw.tRevT, Tw.tFput])
namespace K44
open PySem PySem.Spec PyProof.Rows L2 Tw
open K44R (polyD okP okR exch lng T numAt nums co g rw' trimI trimP col Ro RoA Po Pr Bd)
/-! drawn polys -/
def numB (d : PyData) : Bool := match d with
  | .int i => decide (i.natAbs ≤ 100)
  | _ => false
theorem num_of {a : Addr} {H : Hp} {v : V} {d : PyData} (h : Da a H v d) (n : numB d = true) : ∃ i, v = .int i ∧ i.natAbs ≤ 100 := by
  cases h with
  | int i => exact ⟨i, rfl, of_decide_eq_true n⟩
  | _ => cases n
def spLRow : Sp := fun vs H Q _ => ∃ (p : Addr) (ns : List Int), vs = [.ref p] ∧ H p = some (.lst (ns.map V.int)) ∧ ns.length ≤ 100 ∧ ∀ v H', Same H H' → Ro H' v (trimI ns) → Q v H'
def spNum : Sp := fun vs H Q _ => ∃ a, vs = [.ref a] ∧ We a H ∧ ∀ i H', Kp a H H' → We a H' → i.natAbs ≤ LB → Q (.int i) H'
theorem cutV_to (xs : List V) (m : Nat) : L2.cutV xs none (some (m : Int)) = xs.take m := by
  unfold L2.cutV
  rw [HT.sIx_nat, HT.sIx_none, List.drop_zero, Nat.sub_zero]
  by_cases c : m ≤ xs.length
  · rw [Nat.min_eq_left c]
  · rw [Nat.min_eq_right (by omega), List.take_length, List.take_of_length_le (by omega)]
theorem da_nums {a : Addr} {H : Hp} (ns : List Int) : DaAll a H (ns.map V.int) (ns.map PyData.int) := by
  induction ns with
  | nil => exact .nil
  | cons n l ih => exact .cons (.int n) ih
section
variable {P : Program} {w : World} {K : PySem.W.Frag} {mg : Str → Option Value} {base : Heap}
theorem scLRow : FnScope ["_law_some", "_law_spot"] ["_law_some"] (defScope sLRow) := ⟨rfl, rfl, rfl, by decide +kernel, rfl, by decide +kernel, by decide +kernel⟩
theorem ok_lrow (D : Def K mg "_law_row" sLRow ["_law_some"]) (nb : Nb mg) : Cal P w K mg base "_law_row" 1 ["_law_some"] spLRow := by
  refine D.ok scLRow (fun vs H Q E h => ?_) (fun f cdv A out s H vs Q E hr h => ?_)
  · obtain ⟨p, ns, rfl, _⟩ := h; rfl
  obtain ⟨p, ns, rfl, hp, hl, q⟩ := h
  refine ⟨_, (pss_cons (ps_set (i := 1) scLRow.nd rfl (Or.inl rfl) (pe_callB (id := "len") (r := rLn K) call_len_seq (by rfl) nb.len PySem.boot_len (pa_cons (pv 0) pa_nil)))
    (pss_cons (ps_while PassesOwn.never (PW.pt (pw_and (pt_cmpR op_gt (pv 1) pe_int (nomark _)) (pw_and1 (pt_cmpR op_eq (pe_ix ix_list (pv 0) (pe_op op_sub (pv 1) pe_int) (fun _ _ => rfl)) pe_int (nomark _))))) (pss_one (ps_set (i := 1) scLRow.nd rfl (Or.inl rfl) (pe_op op_sub (pv 1) pe_int))))
    (pss_one (ps_ret (pe_callTy (T := "tuple") call_tuple_of (by rfl) nb.tup (by decide +kernel) (pa_cons (pe_slice sl_list (pv 0) po_none (po_some (pv 1))) pa_nil)))))), ?_⟩
  walk_at "rd"
  refine ⟨.ref p, rfl, p, _, rfl, .inl (SqL.of hp), ?_⟩
  rw [List.length_map]
  refine ⟨fun m σ H' => (∀ (i : Nat) c, m ≤ i → ns[i]? = some c → (c == 0) = true) ∧ m ≤ ns.length ∧ σ = [some (.ref p), some (.int (m : Int))] ∧ H' = H, ⟨ns.length, (fun i c hi e => by rw [List.getElem?_eq_none hi] at e; cases e), Nat.le_refl _, rfl, rfl⟩, ?_⟩
  rintro m σ H1 ⟨hz, hm, rfl, rfl⟩
  have last : (m = 0 ∨ ∃ c, ns[m - 1]? = some c ∧ (c == 0) = false) → ∀ c, H1 c = none → ∃ (p : Addr) (ys : List V), [V.ref c] = [.ref p] ∧ ((SqL K (upd H1 c (.lst (L2.cutV (ns.map V.int) none (some (m : Int))))) p ys ∧ ∀ l, (upd H1 c (.lst (L2.cutV (ns.map V.int) none (some (m : Int))))) l = none → Q (.ref l) (upd (upd H1 c (.lst (L2.cutV (ns.map V.int) none (some (m : Int))))) l (.tup ys))) ∨ (SqT K (upd H1 c (.lst (L2.cutV (ns.map V.int) none (some (m : Int))))) p ys ∧ Q (.ref p) (upd H1 c (.lst (L2.cutV (ns.map V.int) none (some (m : Int))))))) := fun hlast c nc => by
    rw [cutV_to, ← List.map_take]
    have s1 := same_new (o := .lst ((ns.take m).map V.int)) nc
    refine ⟨c, _, rfl, .inl ⟨SqL.of upd_same, fun z nz => ?_⟩⟩
    refine q _ _ (s1.trans (same_new nz)) ⟨z, rfl, ?_⟩
    rw [upd_same, show trimI ns = ns.take m from K44R.trimBy_take _ ns m hm hz hlast]
  refine ⟨.int m, rfl, m, 0, rfl, rfl, _, rfl, ite2 (fun z => ?_) (fun z => ?_)⟩
  · have z := of_decide_eq_true z
    obtain ⟨j, rfl⟩ : ∃ j, m = j + 1 := ⟨m - 1, by omega⟩
    have hj : j < ns.length := by omega
    have ej : ((j + 1 : Nat) : Int) - 1 = (j : Int) := by omega
    refine ⟨.ref p, rfl, .int ((j + 1 : Nat) : Int), rfl, _, _, rfl, rfl, p, _, _, .int ns[j], rfl, rfl, SqL.of hp, ?_, rfl, _, rfl, ?_⟩
    · rw [ej]
      exact atI_nat (by rw [List.getElem?_map, List.getElem?_eq_getElem hj]; rfl)
    refine ite2 (fun y => ?_) (fun y => ?_)
    · exact ⟨fun σ' H' => σ' = [some (.ref p), some (.int (j : Int))] ∧ H' = H1, fun σ' H' h => ⟨j, by omega, (fun i c hi e => by
          rcases Nat.lt_or_eq_of_le hi with g | g
          · exact hz i c (by omega) e
          · subst g; rw [List.getElem?_eq_getElem hj] at e; cases e; rw [dec_int] at y; exact y), by omega, h.1, h.2⟩, .int ((j + 1 : Nat) : Int), rfl, _, _, rfl, rfl, by rw [← ej]; rfl, rfl⟩
    · exact ⟨.ref p, rfl, .int ((j + 1 : Nat) : Int), rfl, _, rfl, p, _, rfl, SqL.of hp, last (.inr ⟨ns[j], List.getElem?_eq_getElem (by omega), by cases h : (ns[j] == 0) with | true => exact absurd (by rw [dec_int]; exact h) y | false => rfl⟩)⟩
  · exact ⟨.ref p, rfl, .int m, rfl, _, rfl, p, _, rfl, SqL.of hp, last (.inl (by refine Decidable.byContradiction fun y => z (decide_eq_true ?_); omega))⟩
theorem scNumber : FnScope ["_law_well_here", "_law_kind"] ["_law_well_here"] (defScope sNumber) := ⟨rfl, rfl, rfl, by decide +kernel, rfl, by decide +kernel, by decide +kernel⟩
theorem ok_number (D : Def K mg "_law_number" sNumber ["_law_well_here"]) (c1 : Cal P w K mg base "_law_draw" 1 ["_law_well_here", "_law_many"] spDraw) : Cal P w K mg base "_law_number" 2 ["_law_well_here"] spNum := by
  refine D.ok scNumber (fun vs H Q E h => ?_) (fun f cdv A out s H vs Q E hr h => ?_)
  · obtain ⟨a, rfl, _⟩ := h; rfl
  obtain ⟨a, rfl, hw, q⟩ := h
  have hb1 : LB = 10 ^ 20 + 1000 := rfl
  refine ⟨_, (pss_cons (ps_set (i := 1) scNumber.nd rfl (Or.inl rfl) (pe_cal c1 hr (by omega) (by rfl) (pa_cons (pv 0) (pa_cons pe_int pa_nil))))
    (pss_cons (ps_if (pt_cmpR op_lt (pv 1) pe_int (nomark _)) (pss_one (ps_ret (pe_ix (r := rIxT K) ix_tup (pe_lit _ (d := .tuple [.int 0, .int 1, .int (-1), .int 0, .int 2, .int 3, .int 0, .int (-2), .int 5, .int 1]) (by rfl)) (pv 1) (fun _ _ => rfl)))) pss_nil)
    (pss_one (ps_ret (pe_ifExp (pt_cmpR op_eq (pv 1) pe_int (nomark _)) (pe_op op_sub (pe_cal c1 hr (by omega) (by rfl) (pa_cons (pv 0) (pa_cons pe_int pa_nil))) pe_int) (pe_op op_sub (pe_lit _ (d := .int (10 ^ 20)) (by rfl)) (pe_cal c1 hr (by omega) (by rfl) (pa_cons (pv 0) (pa_cons pe_int pa_nil))))))))), ?_⟩
  walk_at "rd"
  refine ⟨.ref a, rfl, a, _, rfl, hw, by decide, by decide, fun r H1 r0 r1 k1 w1 => ?_⟩
  refine ⟨.int r, rfl, _, _, rfl, rfl, _, rfl, ite2 (fun z => ?_) (fun z => ?_)⟩
  · have z := of_decide_eq_true z
    refine ⟨a, w1.some, fun v H2 s2 dv => ⟨.int r, rfl, ix_da dv r0 (by simpa using z) fun x d hm hx => ?_⟩⟩
    obtain ⟨i, rfl, hi⟩ := num_of hx ((by decide : ∀ d ∈ ([.int 0, .int 1, .int (-1), .int 0, .int 2, .int 3, .int 0, .int (-2), .int 5, .int 1] : List PyData), numB d = true) d hm)
    exact q i H2 (k1.trans (Kp.of s2)) (w1.to s2) (by rw [hb1]; omega)
  · refine ⟨.int r, rfl, rfl, _, rfl, ite2 (fun y => ?_) (fun y => ?_)⟩
    · refine ⟨.ref a, rfl, a, _, rfl, w1, by decide, by decide, fun t H2 t0 t1 k2 w2 => ⟨_, _, rfl, rfl, q _ H2 (k1.trans k2) w2 (by rw [hb1]; omega)⟩⟩
    · refine ⟨a, w1.some, fun v H2 s2 dv => ?_⟩
      cases dv
      exact ⟨.ref a, rfl, a, _, rfl, w1.to s2, by decide, by decide, fun t H3 t0 t1 k3 w3 => ⟨_, _, rfl, rfl, q _ H3 ((k1.trans (Kp.of s2)).trans k3) w3 (by rw [hb1]; omega)⟩⟩
end
end K44

set_option Elab.async false
set_option linter.all false
set_option maxRecDepth 100000
set_option maxHeartbeats 8000000
local macro_rules | `(tactic| walk_at "rd") => `(tactic| dsimp only [Evl.tCut, L2.tSeq, L2.tNext, L2.tRet, L2.tRetN, L2.tAsg, L2.gName, L2.tIfS, L2.tDrop, L2.tCons, L2.tNil, L2.tC, L2.tVar, L2.tCB, L2.tAndV, L2.tOrV, L2.tNotV, L2.tB, L2.tTest, L2.tOp, L2.tUn, L2.tNot, L2.tAnd, L2.tOr, L2.tIf, L2.tCall, L2.tTup, L2.tLst, L2.tNotT, L2.tYes, L2.gTup, L2.gCons, L2.gNil, L2.gSub, L2.tBM0, L2.tBM, L2.tWhile, L2.tFor, L2.iRng1, L2.iRng2, L2.tAugS, Tw.iEnumT, L2.tCKw, L2.tAug, L2.ipI, RT.iRevA, L2.tPar, L2.tPar3, L2.tSl, L2.tNoPart, L2.tPart, Tw.tRevT, Tw.tFput])
namespace K44
open PySem PySem.Spec PyProof.Rows L2 Tw
open K44R (polyD okP okR exch lng T numAt nums co g rw' trimI trimP col Ro RoA Po Pr Bd)
theorem rowD_lay (r : List Int) : (K44R.rowD r).canLay0 = true ∧ PyData.depth (K44R.rowD r) ≤ 1 := by
  refine ⟨?_, ?_⟩
  · show PyData.canLay0 (.tuple _) = true
    rw [PyData.canLay0]
    refine lay1_of fun e m => ?_
    obtain ⟨i, _, rfl⟩ := List.mem_map.mp m
    rfl
  · show PyData.depth (.tuple _) ≤ 1
    rw [PyData.depth]
    refine Nat.succ_le_succ (dpt1_le fun e m => ?_)
    obtain ⟨i, _, rfl⟩ := List.mem_map.mp m
    exact Nat.le_refl _
theorem das_roL {L : Addr} {H : Hp} {ys : List V} (hL : H L = some (.lst ys)) : ∀ {xs : List V} {rs : List (List Int)}, RoA H xs rs → DaAll L H xs (rs.map K44R.rowD)
  | [], [], _ => .nil
  | [], r :: rs, h => by have := h.1; simp at this
  | x :: xs, [], h => by have := h.1; simp at this
  | x :: xs, r :: rs, h => by
    obtain ⟨r', e1, p, e2, e3⟩ := h.2 0 x rfl
    cases e1
    subst e2
    refine .cons (.tup (fun z => by rw [z, hL] at e3; cases e3) e3 (da_nums r)) (das_roL hL ⟨by have := h.1; simpa using this, fun i v e => ?_⟩)
    obtain ⟨r', e1, e2⟩ := h.2 (i + 1) v (by simpa using e)
    exact ⟨r', by simpa using e1, e2⟩
theorem dp_ro {K : PySem.W.Frag} {L : Addr} {H : Hp} {xs : List V} {rs : List (List Int)} (hL : H L = some (.lst xs)) (h : RoA H xs rs) (lay : (PyData.list (rs.map K44R.rowD)).canLay0 = true) : Dp K H (.ref L) (.list (rs.map K44R.rowD)) := by
  have := (das_roL hL h).dp (K := K) (by rw [PyData.canLay0] at lay; exact lay)
  exact .lst (SqL.of hL) this
/-- a drawn POLY -/
def Pl (p : List (List Int)) : Prop := okP p ∧ p.length ≤ 5 ∧ ∀ r ∈ p, r.length ≤ 5 ∧ ∀ c ∈ r, c.natAbs ≤ LB
def spLPoly : Sp := fun vs H Q _ => ∃ a, vs = [.ref a] ∧ We a H ∧ ∀ v p H', Kp a H H' → We a H' → Po H' v p → Pl p → Q v H'
theorem we_upd {a L : Addr} {H : Hp} {o : HO} (h : We a H) (n : L ≠ a) : We a (upd H L o) := by
  obtain ⟨x, y, z, e⟩ := h
  exact ⟨x, y, z, by rw [upd_ne n.symm]; exact e⟩
section
variable {P : Program} {w : World} {K : PySem.W.Frag} {mg : Str → Option Value} {base : Heap}
theorem scLPoly : FnScope ["_law_well_here", "_law_kind", "_law_found", "_law_lap", "_law_figures", "_law_turn"] ["_law_well_here"] (defScope sLPoly) := ⟨rfl, rfl, rfl, by decide +kernel, rfl, by decide +kernel, by decide +kernel⟩
theorem ok_lpoly (D : Def K mg "_law_poly" sLPoly ["_law_well_here"]) (nb : Nb mg) (c1 : Cal P w K mg base "_law_draw" 1 ["_law_well_here", "_law_many"] spDraw) (c2 : Cal P w K mg base "_law_number" 2 ["_law_well_here"] spNum) (c3 : Cal P w K mg base "_law_row" 1 ["_law_some"] spLRow) : Cal P w K mg base "_law_poly" 3 ["_law_well_here"] spLPoly := by
  refine D.ok scLPoly (fun vs H Q E h => ?_) (fun f cdv A out s H vs Q E hr h => ?_)
  · obtain ⟨a, rfl, _⟩ := h; rfl
  obtain ⟨a, rfl, hw, q⟩ := h
  refine ⟨_, (pss_cons (ps_par (i := 1) (j := 2) rfl scLPoly.nd rfl rfl (by decide) rfl rfl (pa_cons (pe_cal c1 hr (by omega) (by rfl) (pa_cons (pv 0) (pa_cons pe_int pa_nil))) (pa_cons (pe_lst pa_nil) pa_nil)) rfl)
    (pss_cons (ps_for PassesOwn.never rfl (pi_range1 (by rfl) nb.rng (pa_cons (pe_op op_add pe_int (pe_cal c1 hr (by omega) (by rfl) (pa_cons (pv 0) (pa_cons (pe_ifExp (pt_cmpR op_eq (pv 1) pe_int (nomark _)) pe_int pe_int) pa_nil)))) pa_nil)) (pg_name (i := 3) scLPoly.nd rfl (Or.inl rfl)) (pss_cons (ps_set (i := 4) scLPoly.nd rfl (Or.inl rfl) (pe_lst pa_nil))
    (pss_cons (ps_for PassesOwn.never rfl (pi_range1 (by rfl) nb.rng (pa_cons (pe_cal c1 hr (by omega) (by rfl) (pa_cons (pv 0) (pa_cons (pe_ifExp (pt_cmpR op_eq (pv 1) pe_int (nomark _)) pe_int pe_int) pa_nil))) pa_nil)) (pg_name (i := 5) scLPoly.nd rfl (Or.inl rfl)) (pss_one (ps_expr (pe_bm PySem.F.plainAttrs_list PySem.F.slot_list_append PySem.F.type_list_append mt_append (pv 4) (pa_cons (pe_cal c2 hr (by omega) (by rfl) (pa_cons (pv 0) pa_nil)) pa_nil)))))
    (pss_one (ps_expr (pe_bm PySem.F.plainAttrs_list PySem.F.slot_list_append PySem.F.type_list_append mt_append (pv 2) (pa_cons (pe_cal c3 hr (by omega) (by rfl) (pa_cons (pv 4) pa_nil)) pa_nil)))))))
    (pss_cons (ps_while PassesOwn.never (PW.pt (pw_and (pt_cmpR (op_neD hr.units) (pv 2) (pe_lst pa_nil) (nomark _)) (pw_and1 (pt_cmpR (op_eqT0 hr.units) (pe_ix ix_list (pv 2) (pe_un un_neg pe_int) (fun _ _ => rfl)) (pe_tup pa_nil) (nomark _))))) (pss_one (ps_expr (pe_bm0 PySem.F.plainAttrs_list PySem.F.slot_list_pop PySem.F.type_list_pop mt_pop (pv 2)))))
    (pss_one (ps_ret (pe_callTy (T := "tuple") call_tuple_of (by rfl) nb.tup (by decide +kernel) (pa_cons (pv 2) pa_nil))))))), ?_⟩
  walk_at "rd"
  refine ⟨.ref a, rfl, a, _, rfl, hw, by decide, by decide, fun kd H2 k0 k1 kp2 w2 => ⟨sz (by decide), fun L nL => ⟨_, _, rfl, ?_⟩⟩⟩
  have La : L ≠ a := w2.ne nL
  have k3 : Kp a H2 (upd H2 L (.lst [])) := kp_new nL
  have w3 : We a (upd H2 L (.lst [])) := we_new (o := .lst []) w2 nL
  have e3 : upd H2 L (.lst []) L = some (.lst []) := upd_same
  generalize upd H2 L (.lst []) = H3 at k3 w3 e3 ⊢
  refine ⟨.ref a, rfl, .int kd, rfl, rfl, _, rfl, ite2 (fun _ => ?_) (fun _ => ?_)⟩
  all_goals
    refine ⟨a, _, rfl, w3, by omega, by omega, fun cn H4 c0 c1 k4 w4 => ⟨_, _, rfl, rfl, 1 + cn, rfl, by omega, by omega, ?_⟩⟩
    refine for_rng (lo := 0) (n := (1 + cn).toNat) (fun i σ H' => ∃ (x3 x4 x5 : Option V) (xs : List V) (rs : List (List Int)), σ = [some (.ref a), some (.int kd), some (.ref L), x3, x4, x5] ∧ Kp a H2 H' ∧ We a H' ∧ H' L = some (.lst xs) ∧ RoA H' xs rs ∧ rs.length = i ∧ ∀ r ∈ rs, okR r ∧ r.length ≤ 5 ∧ ∀ c ∈ r, c.natAbs ≤ LB) ?_ ?_ ?_
    · exact ⟨none, none, none, [], [], rfl, k3.trans k4, w4, k4 _ _ La e3, K44R.RoA.nil _, rfl, fun d hd => nomatch hd⟩
    · rintro i σ H5 hi ⟨x3, x4, x5, xs, rs, rfl, k5, w5, e5, r5, l5, p5⟩
      walk_at "rd"
      refine ⟨sz (by decide), fun F nF => ?_⟩
      have Fa : F ≠ a := w5.ne nF
      have k6 : Kp a H5 (upd H5 F (.lst [])) := kp_new nF
      have w6 : We a (upd H5 F (.lst [])) := we_new (o := .lst []) w5 nF
      have e6 : upd H5 F (.lst []) F = some (.lst (([] : List Int).map V.int)) := upd_same
      generalize upd H5 F (.lst []) = H6 at k6 w6 e6 ⊢
      refine ⟨.ref a, rfl, .int kd, rfl, rfl, _, rfl, ite2 (fun _ => ?_) (fun _ => ?_)⟩
      all_goals
        refine ⟨a, _, rfl, w6, by omega, by omega, fun cm H7 cm0 cm1 k7 w7 => ⟨cm, rfl, by omega, by omega, ?_⟩⟩
        refine for_rng (lo := 0) (n := cm.toNat) (fun j σ H' => ∃ (x5 : Option V) (ns : List Int), σ = [some (.ref a), some (.int kd), some (.ref L), some (.int (0 + (i : Int))), some (.ref F), x5] ∧ Kp a H5 H' ∧ We a H' ∧ H' F = some (.lst (ns.map V.int)) ∧ ns.length = j ∧ ∀ c ∈ ns, c.natAbs ≤ LB) ?_ ?_ ?_
        · exact ⟨x5, [], rfl, k6.trans k7, w7, k7 _ _ Fa e6, rfl, fun c hc => nomatch hc⟩
        · rintro j σ H8 hj ⟨x7, ns, rfl, k8, w8, e8, l8, b8⟩
          walk_at "rd"
          refine ⟨.ref F, rfl, .inl ⟨rfl, _, SqL.of e8⟩, .ref a, rfl, a, rfl, w8, fun t H9 k9 w9 hb => ⟨F, ns.map V.int, .int t, rfl, rfl, k9 _ _ Fa e8, ?_, ?_⟩⟩
          · rw [List.length_map]; exact lt_line (by omega)
          · exact ⟨some (.int (0 + (j : Int))), ns ++ [t], rfl, kp_upd (k8.trans k9) nF, we_upd w9 Fa, by rw [upd_same, List.map_append]; rfl, by simp [l8], fun c hc => by
              rcases List.mem_append.mp hc with hc | hc
              · exact b8 c hc
              · rw [List.mem_singleton.mp hc]; omega⟩
        · rintro σ H8 ⟨x7, ns, rfl, k8, w8, e8, l8, b8⟩
          refine ⟨.ref L, rfl, .inl ⟨rfl, _, SqL.of (k8 _ _ La e5)⟩, .ref F, rfl, F, ns, rfl, e8, by omega, fun v H9 s9 d9 => ⟨L, xs, v, rfl, rfl, s9 _ _ (k8 _ _ La e5), ?_, ?_⟩⟩
          · rw [r5.1]; exact lt_line (by omega)
          · have k9 := k8.trans (Kp.of s9)
            have e9 := s9 _ _ (k8 _ _ La e5)
            refine ⟨some (.int (0 + (i : Int))), some (.ref F), x7, xs ++ [v], rs ++ [trimI ns], rfl, kp_upd (k5.trans k9) nL, we_upd (w8.to s9) La, upd_same, ?_, by simp [l5], fun r hr => ?_⟩
            · exact ((r5.kt (K44R.kt_kp w5 k9)).snoc d9).kt (K44R.kt_upd e9)
            · rcases List.mem_append.mp hr with hr | hr
              · exact p5 r hr
              · rw [List.mem_singleton.mp hr]
                exact ⟨K44R.okR_trim _, Nat.le_trans (K44R.trimBy_len _ _) (by omega), fun c hc => b8 c (K44R.trimBy_mem _ _ hc)⟩
    · rintro σ H5 ⟨x3, x4, x5, xs, rs, rfl, k5, w5, e5, r5, l5, p5⟩
      have lx : xs.length = rs.length := r5.1
      let KK : Hp → Prop := fun H' => Kp a H2 H' ∧ We a H'
      have kk5 : KK H5 := ⟨k5, w5⟩
      have kks : ∀ H' H'', KK H' → Same H' H'' → KK H'' := fun H' H'' k s => ⟨k.1.trans (Kp.of s), k.2.to s⟩
      have kku : ∀ H' o, KK H' → KK (upd H' L o) := fun H' o k => ⟨kp_upd k.1 nL, we_upd k.2 La⟩
      refine ⟨fun m σ H' => (∀ (i : Nat) r, m ≤ i → rs[i]? = some r → r.isEmpty = true) ∧ m ≤ rs.length ∧ σ = [some (.ref a), some (.int kd), some (.ref L), x3, x4, x5] ∧ KK H' ∧ H' L = some (.lst (xs.take m)) ∧ RoA H' xs rs, ⟨rs.length, (fun i c hi e => by rw [List.getElem?_eq_none hi] at e; cases e), Nat.le_refl _, rfl, kk5, by rw [← lx, List.take_length]; exact e5, r5⟩, ?_⟩
      rintro m σ H6 ⟨hz, hm, rfl, k6, e6, r6⟩
      have fin : (m = 0 ∨ ∃ r, rs[m - 1]? = some r ∧ r.isEmpty = false) → ∀ H7, KK H7 → H7 L = some (.lst (xs.take m)) → RoA H7 xs rs → ∃ (p : Addr) (ys : List V), [V.ref L] = [.ref p] ∧ ((SqL K H7 p ys ∧ ∀ l, H7 l = none → Q (.ref l) (upd H7 l (.tup ys))) ∨ (SqT K H7 p ys ∧ Q (.ref p) H7)) := fun hlast H7 k7 e7 r7 => by
        have ep : trimP rs = rs.take m := K44R.trimBy_take _ rs m hm hz hlast
        refine ⟨L, _, rfl, .inl ⟨SqL.of e7, fun z nz => ?_⟩⟩
        have s8 := same_new (o := .tup (xs.take m)) nz
        refine q _ (trimP rs) _ ((kp2.trans k7.1).trans (Kp.of s8)) (k7.2.to s8) ⟨z, xs.take m, rfl, upd_same, ?_⟩ ⟨K44R.okP_trim fun r hr => (p5 r hr).1, Nat.le_trans (K44R.trimBy_len _ _) (by omega), fun r hr => (p5 r (K44R.trimBy_mem _ _ hr)).2⟩
        rw [ep]
        exact (r7.take m).kt (K44R.Kt.of s8)
      refine ⟨.ref L, rfl, sz (by decide), fun t nt => ?_⟩
      have s7 := same_new (o := .lst []) nt
      have eT : upd H6 t (.lst []) t = some (.lst []) := upd_same
      have k7 := kks H6 _ k6 s7
      generalize upd H6 t (.lst []) = H7 at s7 eT k7 ⊢
      have e7 := s7 _ _ e6
      have r7 := r6.kt (K44R.Kt.of s7)
      have lay : (PyData.list ((rs.take m).map K44R.rowD)).canLay0 = true := by
        rw [PyData.canLay0]
        exact lay1_of fun e he => (by obtain ⟨r, _, rfl⟩ := List.mem_map.mp he; exact (rowD_lay r).1)
      have shp : SeqAt.shaped (.list ((rs.take m).map K44R.rowD)) = true := by
        unfold SeqAt.shaped
        rw [lay]
        have : PyData.depth (.list ((rs.take m).map K44R.rowD)) ≤ 2 := by
          rw [PyData.depth]
          exact Nat.succ_le_succ (dpt1_le fun e he => (by obtain ⟨r, _, rfl⟩ := List.mem_map.mp he; exact (rowD_lay r).2))
        rw [decide_eq_true (by omega)]
        rfl
      refine ⟨.list ((rs.take m).map K44R.rowD), .list [], dp_ro e7 (r7.take m) lay, .lst (SqL.of eT) .nil, shp, by decide, _, rfl, ?_⟩
      cases m with
      | zero => exact iteF ⟨.ref L, rfl, fin (.inl rfl) H7 k7 e7 r7⟩
      | succ j =>
        have hj : j < xs.length := by omega
        have hjd : j < rs.length := by omega
        have et : xs.take (j + 1) = xs.take j ++ [xs[j]] := by rw [List.take_add_one, List.getElem?_eq_getElem hj]; rfl
        have ed : rs.take (j + 1) = rs.take j ++ [rs[j]] := by rw [List.take_add_one, List.getElem?_eq_getElem hjd]; rfl
        have ne : (!PyData.eqv (.list ((rs.take (j + 1)).map K44R.rowD)) (.list [])) = true := by
          rw [ed]
          cases rs.take j <;> simp [PyData.eqv, PyData.eqvAll]
        rw [ne]
        obtain ⟨r, g1, pj, ej, hpj⟩ := r7.2 j _ (List.getElem?_eq_getElem hj)
        have er : r = rs[j] := by rw [List.getElem?_eq_getElem hjd] at g1; cases g1; rfl
        subst er
        refine iteT ⟨.ref L, rfl, 1, rfl, L, _, -1, xs[j], rfl, rfl, SqL.of e7, by rw [et]; exact atI_last _ _, sz (by decide), fun t2 nt2 => ?_⟩
        have s8 := same_new (o := .tup []) nt2
        refine ⟨pj, t2, _, [], ej, rfl, SqT.of (s8 _ _ hpj), SqT.of upd_same, rfl, _, rfl, ?_⟩
        rw [if_neg Bool.false_ne_true]
        have k8 := kks H7 _ k7 s8
        have e8 := s8 _ _ e7
        have r8 := r7.kt (K44R.Kt.of s8)
        generalize upd H7 t2 (.tup []) = H8 at k8 e8 r8 ⊢
        have em : ((rs[j]).map V.int).isEmpty = (rs[j]).isEmpty := by cases rs[j] <;> rfl
        first | rw [em] | skip
        refine ite2 (fun y => ?_) (fun y => ⟨.ref L, rfl, fin (.inr ⟨rs[j], List.getElem?_eq_getElem hjd, by first | (cases h : (rs[j]).isEmpty with | true => exact absurd (by first | exact h | (rw [em]; exact h)) y | false => rfl)⟩) H8 k8 e8 r8⟩)
        refine ⟨fun σ' H' => σ' = [some (.ref a), some (.int kd), some (.ref L), x3, x4, x5] ∧ KK H' ∧ H' L = some (.lst (xs.take j)) ∧ RoA H' xs rs, fun σ' H' h => ⟨j, by omega, (fun i c hi e => by
          rcases Nat.lt_or_eq_of_le hi with g | g
          · exact hz i c (by omega) e
          · subst g; rw [List.getElem?_eq_getElem hjd] at e; cases e; first | exact y | (rw [← em]; exact y)), by omega, h⟩, .ref L, rfl, .inl ⟨rfl, _, SqL.of e8⟩, ?_⟩
        refine ⟨L, xs.take (j + 1), xs[j], rfl, rfl, e8, getLast_get (by rw [et, List.getLast?_concat]), rfl, kku H8 _ k8, by rw [upd_same, et, List.dropLast_concat], ?_⟩
        exact r8.kt (K44R.kt_upd e8)
end
end K44

set_option Elab.async false
set_option linter.all false
set_option maxRecDepth 100000
set_option maxHeartbeats 8000000
local macro_rules | `(tactic| walk_at "rd") => `(tactic| dsimp only [Evl.tCut, L2.tSeq, L2.tNext, L2.tRet, L2.tRetN, L2.tAsg, L2.gName, L2.tIfS, L2.tDrop, L2.tCons, L2.tNil, L2.tC, L2.tVar, L2.tCB, L2.tAndV, L2.tOrV, L2.tNotV, L2.tB, L2.tTest, L2.tOp, L2.tUn, L2.tNot, L2.tAnd, L2.tOr, L2.tIf, L2.tCall, L2.tTup, L2.tLst, L2.tNotT, L2.tYes, L2.gTup, L2.gCons, L2.gNil, L2.gSub, L2.tBM0, L2.tBM, L2.tWhile, L2.tFor, L2.iRng1, L2.iRng2, L2.tAugS, Tw.iEnumT, L2.tCKw, L2.tAug, L2.ipI, RT.iRevA, L2.tPar, L2.tPar3, L2.tSl, L2.tNoPart, L2.tPart, Tw.tRevT, Tw.tFput])
namespace K44
open PySem PySem.Spec PyProof.Rows L2 Tw
open K44R (polyD okP okR exch lng T numAt nums co g rw' trimI trimP col Ro RoA Po Pr Bd)
theorem pick_word {a : Addr} {H : Hp} {l : List Str} {R : VK} {E : XK} (hw : We a H) (h0 : 0 < l.length) (h1 : l.length ≤ 20) (q : ∀ w H', w ∈ l → Kp a H H' → We a H' → R (.str w) H') :
    ∃ a' : Addr, H a' ≠ none ∧ ∀ v H1, Same H H1 → Da a' H1 v (.tuple (l.map PyData.str)) → spPick [.ref a, v] H1 R E := by
  refine ⟨a, hw.some, fun v H1 s1 dv => ?_⟩
  obtain ⟨p, xs, rfl, np, hp, hx⟩ := da_tup dv
  have lx := hx.len
  rw [List.length_map] at lx
  refine ⟨a, p, xs, rfl, hw.to s1, np, .inl hp, fun z => by rw [z] at lx; simp at lx; omega, by omega, fun i x H2 hi k2 w2 => ?_⟩
  obtain ⟨d, e1, e2⟩ := hx.get hi
  obtain ⟨w, hw2, rfl⟩ := List.mem_map.mp (List.mem_of_getElem? e1)
  cases e2
  exact q w H2 hw2 ((Kp.of s1).trans k2) w2
def Say.sz : Say → Nat
  | .nn s => 1 + s.sz
  | .bo _ s t => 1 + s.sz + t.sz
  | .qu _ _ s => 1 + s.sz
  | _ => 1
/-- a drawn saying -/
def Gs (ps : List (List (List Int))) (dp : Nat) (s : Say) : Prop := s.ok ∧ s.depth = dp ∧ (∀ q ∈ s.leaves, ∃ p ∈ ps, q = polyD p) ∧ s.sz ≤ 4 * dp
/-- the drawn POLYs, in a list -/
structure Pls (a L : Addr) (H : Hp) (ps : List (List (List Int))) : Prop where
  w : We a H
  La : L ≠ a
  ls : ∃ xs, H L = some (.lst xs) ∧ DaAll a H xs (ps.map polyD)
  p0 : 0 < ps.length
  p1 : ps.length ≤ 100
  pl : ∀ p ∈ ps, Pl p
theorem Pls.kp {a L : Addr} {H H' : Hp} {ps : List (List (List Int))} (h : Pls a L H ps) (k : Kp a H H') (w : We a H') : Pls a L H' ps := by
  obtain ⟨xs, h1, h2⟩ := h.ls
  exact ⟨w, h.La, ⟨xs, k _ _ h.La h1, h2.kp k⟩, h.p0, h.p1, h.pl⟩
theorem pl_small {p : List (List Int)} (h : Pl p) : smallB (polyD p) = true := small_mk h.1 h.2.1 fun r hr => (h.2.2 r hr).1
theorem sz_one {s : Say} (h : s.depth ≤ 1) : s.sz ≤ 1 := by
  cases s with
  | nn s => have := s.depth_pos; rw [depth_nn] at h; omega
  | bo b s t => have := s.depth_pos; rw [depth_bo] at h; omega
  | qu al x s => have := s.depth_pos; rw [depth_qu] at h; omega
  | _ => exact Nat.le_refl _
theorem sz_small {s : Say} (_ : s.ok) (h : s.depth ≤ 2) (_ : True ∨ True := .inl trivial) : s.sz ≤ 3 := by
  cases s with
  | nn s => rw [depth_nn] at h; have := sz_one (s := s) (by omega); show 1 + s.sz ≤ 3; omega
  | bo b s t => rw [depth_bo] at h; have := sz_one (s := s) (by omega); have := sz_one (s := t) (by omega); show 1 + s.sz + t.sz ≤ 3; omega
  | qu al x s => rw [depth_qu] at h; have := sz_one (s := s) (by omega); show 1 + s.sz ≤ 3; omega
  | _ => exact Nat.le_succ_of_le (Nat.le_succ _)
def spLeaf : Sp := fun vs H Q _ => ∃ (a L : Addr) (ps : List (List (List Int))), vs = [.ref a, .ref L] ∧ Pls a L H ps ∧ ∀ v s H', Kp a H H' → We a H' → Da a H' v s.d → Gs ps 1 s → Q v H'
def spMade (N : Nat) : Sp := fun vs H Q _ => ∃ (a L : Addr) (ps : List (List (List Int))) (dp : Nat), vs = [.ref a, .ref L, .int (dp : Int)] ∧ Pls a L H ps ∧ 1 ≤ dp ∧ dp ≤ N ∧ ∀ v s H', Kp a H H' → We a H' → Da a H' v s.d → Gs ps dp s → Q v H'
section
variable {P : Program} {w : World} {K : PySem.W.Frag} {mg : Str → Option Value} {base : Heap}
theorem scLeaf : FnScope ["_law_well_here", "_law_some", "_law_word"] ["_law_well_here", "_law_some"] (defScope sLeaf) := ⟨rfl, rfl, rfl, by decide +kernel, rfl, by decide +kernel, by decide +kernel⟩
theorem ok_leaf (D : Def K mg "_law_leaf" sLeaf ["_law_well_here", "_law_some"]) (c1 : Cal P w K mg base "_law_draw" 1 ["_law_well_here", "_law_many"] spDraw) (cP : Cal P w K mg base "_law_pick" 2 ["_law_well_here", "_law_some"] spPick) : Cal P w K mg base "_law_leaf" 3 ["_law_well_here", "_law_some"] spLeaf := by
  refine D.ok scLeaf (fun vs H Q E h => ?_) (fun f cdv A out s H vs Q E hr h => ?_)
  · obtain ⟨a, L, ps, rfl, _⟩ := h; rfl
  obtain ⟨a, L, ps, rfl, hp, q⟩ := h
  refine ⟨_, (pss_cons (ps_if (pt_cmpR op_eq (pe_cal c1 hr (by omega) (by rfl) (pa_cons (pv 0) (pa_cons pe_int pa_nil))) pe_int (nomark _)) (pss_one (ps_ret (pe_tup (pa_cons (pe_cal cP hr (by omega) (by rfl) (pa_cons (pv 0) (pa_cons (pe_lit _ (d := .tuple ((["true", "false"] : List Str).map PyData.str)) (by rfl)) pa_nil))) pa_nil)))) pss_nil)
    (pss_cons (ps_set (i := 2) scLeaf.nd rfl (Or.inl rfl) (pe_cal cP hr (by omega) (by rfl) (pa_cons (pv 0) (pa_cons (pe_lit _ (d := .tuple ((["below", "at", "above", "not below", "not at", "not above"] : List Str).map PyData.str)) (by rfl)) pa_nil))))
    (pss_one (ps_ret (pe_tup (pa_cons (pv 2) (pa_cons (pe_cal cP hr (by omega) (by rfl) (pa_cons (pv 0) (pa_cons (pv 1) pa_nil))) pa_nil))))))), ?_⟩
  walk_at "rd"
  refine ⟨.ref a, rfl, a, _, rfl, hp.w, by decide, by decide, fun r H1 r0 r1 k1 w1 => ⟨rfl, _, rfl, ite2 (fun z => ?_) (fun z => ?_)⟩⟩
  · refine ⟨.ref a, rfl, pick_word w1 (by decide) (by decide) fun wd H2 hwd k2 w2 => ⟨sz (by simp), fun p np => ?_⟩⟩
    obtain ⟨s3, d3⟩ := newT w2.some (DaAll.cons (.str wd) .nil) np
    have k3 := (k1.trans k2).trans (Kp.of s3)
    simp only [List.mem_cons, List.not_mem_nil, or_false] at hwd
    rcases hwd with rfl | rfl
    · exact q _ .tt _ k3 (w2.to s3) d3 ⟨trivial, rfl, (fun q hq => nomatch hq), by decide⟩
    · exact q _ .ff _ k3 (w2.to s3) d3 ⟨trivial, rfl, (fun q hq => nomatch hq), by decide⟩
  · refine ⟨.ref a, rfl, pick_word w1 (by decide) (by decide) fun wd H2 hwd k2 w2 => ?_⟩
    have hp2 := (hp.kp k1 w1).kp k2 w2
    obtain ⟨xs, eL, dx⟩ := hp2.ls
    have lx := dx.len
    rw [List.length_map] at lx
    have p0 := hp2.p0
    have p1 := hp2.p1
    refine ⟨.str wd, rfl, .ref a, rfl, .ref L, rfl, a, L, xs, rfl, w2, hp2.La, .inr eL, fun z => by rw [z] at lx; simp at lx; omega, by omega, fun i x H3 hi k3 w3 => ⟨sz (by simp), fun p np => ?_⟩⟩
    obtain ⟨d, e1, e2⟩ := dx.get hi
    obtain ⟨pp, hpp, rfl⟩ := List.mem_map.mp (List.mem_of_getElem? e1)
    obtain ⟨s4, d4⟩ := newT w3.some (DaAll.cons (.str wd) (.cons (e2.kp k3) .nil)) np
    exact q _ (.re wd (polyD pp)) _ (((k1.trans k2).trans k3).trans (Kp.of s4)) (w3.to s4) d4 ⟨⟨hwd, pl_small (hp.pl pp hpp)⟩, rfl, fun z hz => ⟨pp, hpp, List.mem_singleton.mp hz⟩, (show 1 ≤ 4 * 1 by decide)⟩
theorem scMade : FnScope ["_law_well_here", "_law_some", "_law_deep", "_law_kind", "_law_first", "_law_word", "_law_last"] ["_law_well_here", "_law_some", "_law_deep"] (defScope sMade) := ⟨rfl, rfl, rfl, by decide +kernel, rfl, by decide +kernel, by decide +kernel⟩
theorem made_step {N : Nat} (D : Def K mg "_law_made" sMade ["_law_well_here", "_law_some", "_law_deep"]) (nb : Nb mg) (c1 : Cal P w K mg base "_law_draw" 1 ["_law_well_here", "_law_many"] spDraw) (cP : Cal P w K mg base "_law_pick" 2 ["_law_well_here", "_law_some"] spPick) (cLf : Cal P w K mg base "_law_leaf" 3 ["_law_well_here", "_law_some"] spLeaf)
    (cMd : Cal P w K mg base "_law_made" (N + 4) ["_law_well_here", "_law_some", "_law_deep"] (spMade N)) : Cal P w K mg base "_law_made" (N + 5) ["_law_well_here", "_law_some", "_law_deep"] (spMade (N + 1)) := by
  refine D.ok scMade (fun vs H Q E h => ?_) (fun f cdv A out s H vs Q E hr h => ?_)
  · obtain ⟨a, L, ps, dp, rfl, _⟩ := h; rfl
  obtain ⟨a, L, ps, dp, rfl, hp, dp0, dpN, q⟩ := h
  refine ⟨_, (pss_cons (ps_if (pt_cmpR op_lt (pv 2) pe_int (nomark _)) (pss_one (ps_ret (pe_cal cLf hr (by omega) (by rfl) (pa_cons (pv 0) (pa_cons (pv 1) pa_nil))))) pss_nil)
    (pss_cons (ps_par (i := 3) (j := 4) rfl scMade.nd rfl rfl (by decide) rfl rfl (pa_cons (pe_cal c1 hr (by omega) (by rfl) (pa_cons (pv 0) (pa_cons pe_int pa_nil))) (pa_cons (pe_cal cMd hr (by omega) (by rfl) (pa_cons (pv 0) (pa_cons (pv 1) (pa_cons (pe_op op_sub (pv 2) pe_int) pa_nil)))) pa_nil)) rfl)
    (pss_cons (ps_if (pt_cmpR op_lt (pv 3) pe_int (nomark _)) (pss_one (ps_ret (pe_tup (pa_cons pe_str (pa_cons (pv 4) pa_nil))))) pss_nil)
    (pss_cons (ps_if (pt_cmpR op_lt (pv 3) pe_int (nomark _)) (pss_one (ps_ret (pe_tup (pa_cons (pe_cal cP hr (by omega) (by rfl) (pa_cons (pv 0) (pa_cons (pe_lit _ (d := .tuple ((["all", "some"] : List Str).map PyData.str)) (by rfl)) pa_nil))) (pa_cons (pe_cal cP hr (by omega) (by rfl) (pa_cons (pv 0) (pa_cons (pe_lit _ (d := .tuple ((["x", "y"] : List Str).map PyData.str)) (by rfl)) pa_nil))) (pa_cons (pv 4) pa_nil)))))) pss_nil)
    (pss_cons (ps_set (i := 5) scMade.nd rfl (Or.inl rfl) (pe_cal cP hr (by omega) (by rfl) (pa_cons (pv 0) (pa_cons (pe_lit _ (d := .tuple ((["both", "either"] : List Str).map PyData.str)) (by rfl)) pa_nil))))
    (pss_cons (ps_set (i := 6) scMade.nd rfl (Or.inl rfl) (pe_cal cMd hr (by omega) (by rfl) (pa_cons (pv 0) (pa_cons (pv 1) (pa_cons (pe_callB (id := "min") (call_min2 rfl) (by rfl) nb.min (by decide +kernel) (pa_cons (pe_op op_sub (pv 2) pe_int) (pa_cons (pe_op op_add pe_int (pe_cal c1 hr (by omega) (by rfl) (pa_cons (pv 0) (pa_cons pe_int pa_nil)))) pa_nil))) pa_nil)))))
    (pss_one (ps_ret (pe_ifExp (pt_cmpR op_eq (pe_cal c1 hr (by omega) (by rfl) (pa_cons (pv 0) (pa_cons pe_int pa_nil))) pe_int (nomark _)) (pe_tup (pa_cons (pv 5) (pa_cons (pv 4) (pa_cons (pv 6) pa_nil)))) (pe_tup (pa_cons (pv 5) (pa_cons (pv 6) (pa_cons (pv 4) pa_nil))))))))))))), ?_⟩
  walk_at "rd"
  have e1 : (dp : Int) - 1 = ((dp - 1 : Nat) : Int) := by omega
  refine ⟨.int (dp : Int), rfl, _, _, rfl, rfl, _, rfl, ite2 (fun z => ?_) (fun z => ?_)⟩
  · have z := of_decide_eq_true z
    obtain rfl : dp = 1 := by omega
    exact ⟨.ref a, rfl, .ref L, rfl, a, L, ps, rfl, hp, q⟩
  have z : 2 ≤ dp := by
    refine Decidable.byContradiction fun y => z (decide_eq_true ?_)
    omega
  refine ⟨.ref a, rfl, a, _, rfl, hp.w, by decide, by decide, fun kd H1 kd0 kd1 k1 w1 => ?_⟩
  have hp1 := hp.kp k1 w1
  refine ⟨.ref a, rfl, .ref L, rfl, .int (dp : Int), rfl, _, _, rfl, rfl, a, L, ps, dp - 1, by rw [← e1]; rfl, hp1, by omega, by omega, fun v1 t1 H2 k2 w2 d1 g1 => ⟨_, _, rfl, ?_⟩⟩
  have hp2 := hp1.kp k2 w2
  have k2 := k1.trans k2
  obtain ⟨o1, de1, l1, z1⟩ := g1
  refine ⟨.int kd, rfl, _, _, rfl, rfl, _, rfl, ite2 (fun y => ⟨v1, rfl, sz (by simp), fun p np => ?_⟩) (fun y => ?_)⟩
  · obtain ⟨s4, d4⟩ := newT w2.some (DaAll.cons (.str "not") (.cons d1 .nil)) np
    exact q _ (.nn t1) _ (k2.trans (Kp.of s4)) (w2.to s4) d4 ⟨o1, by rw [depth_nn]; omega, l1, by show 1 + t1.sz ≤ _; omega⟩
  refine ⟨.int kd, rfl, _, _, rfl, rfl, _, rfl, ite2 (fun y => ?_) (fun y => ?_)⟩
  · refine ⟨.ref a, rfl, pick_word w2 (by decide) (by decide) fun wd H3 hwd k3 w3 => ⟨.ref a, rfl, pick_word w3 (by decide) (by decide) fun wl H4 hwl k4 w4 => ⟨v1, rfl, sz (by simp), fun p np => ?_⟩⟩⟩
    obtain ⟨s5, d5⟩ := newT w4.some (DaAll.cons (.str wd) (.cons (.str wl) (.cons ((d1.kp k3).kp k4) .nil))) np
    have k5 := ((k2.trans k3).trans k4).trans (Kp.of s5)
    have gg : ∀ al x, Gs ps dp (.qu al x t1) := fun al x => ⟨o1, by rw [depth_qu]; omega, l1, by show 1 + t1.sz ≤ _; omega⟩
    simp only [List.mem_cons, List.not_mem_nil, or_false] at hwd hwl
    rcases hwd with rfl | rfl <;> rcases hwl with rfl | rfl
    · exact q _ (.qu true true t1) _ k5 (w4.to s5) d5 (gg _ _)
    · exact q _ (.qu true false t1) _ k5 (w4.to s5) d5 (gg _ _)
    · exact q _ (.qu false true t1) _ k5 (w4.to s5) d5 (gg _ _)
    · exact q _ (.qu false false t1) _ k5 (w4.to s5) d5 (gg _ _)
  refine ⟨.ref a, rfl, pick_word w2 (by decide) (by decide) fun wd H3 hwd k3 w3 => ?_⟩
  have hp3 := hp2.kp k3 w3
  refine ⟨.ref a, rfl, .ref L, rfl, .int (dp : Int), rfl, _, _, rfl, rfl, .ref a, rfl, a, _, rfl, w3, by decide, by decide, fun r H4 r0 r1 k4 w4 => ⟨_, _, rfl, rfl, _, _, rfl, ?_⟩⟩
  have hp4 := hp3.kp k4 w4
  refine ⟨a, L, ps, (if 1 + r < (dp : Int) - 1 then 1 + r else (dp : Int) - 1).toNat, ?_, hp4, by split <;> omega, by split <;> omega, fun v2 t2 H5 k5 w5 d2 g2 => ?_⟩
  · have : (((if 1 + r < (dp : Int) - 1 then 1 + r else (dp : Int) - 1).toNat : Nat) : Int) = if 1 + r < (dp : Int) - 1 then 1 + r else (dp : Int) - 1 := by split <;> omega
    rw [this]
    rfl
  obtain ⟨o2, de2, l2, z2⟩ := g2
  have hm : (if 1 + r < (dp : Int) - 1 then 1 + r else (dp : Int) - 1).toNat ≤ dp - 1 ∧ (if 1 + r < (dp : Int) - 1 then 1 + r else (dp : Int) - 1).toNat ≤ 2 := by split <;> omega
  have z3 : t2.sz ≤ 3 := sz_small o2 (by omega)
  refine ⟨.ref a, rfl, a, _, rfl, w5, by decide, by decide, fun r2 H6 r20 r21 k6 w6 => ⟨rfl, _, rfl, ?_⟩⟩
  have b1 := (((d1.kp k3).kp k4).kp k5).kp k6
  have b2 := d2.kp k6
  have k6 := (((k2.trans k3).trans k4).trans k5).trans k6
  have ga : ∀ b, Gs ps dp (.bo b t1 t2) := fun b => ⟨⟨o1, o2⟩, by rw [depth_bo]; omega, fun q hq => (List.mem_append.mp hq).elim (l1 q) (l2 q), by show 1 + t1.sz + t2.sz ≤ _; omega⟩
  have gb : ∀ b, Gs ps dp (.bo b t2 t1) := fun b => ⟨⟨o2, o1⟩, by rw [depth_bo]; omega, fun q hq => (List.mem_append.mp hq).elim (l2 q) (l1 q), by show 1 + t2.sz + t1.sz ≤ _; omega⟩
  simp only [List.mem_cons, List.not_mem_nil, or_false] at hwd
  refine ite2 (fun y => ?_) (fun y => ?_)
  · refine ⟨_, rfl, _, rfl, _, rfl, sz (by simp), fun p np => ?_⟩
    obtain ⟨s7, d7⟩ := newT w6.some (DaAll.cons (.str wd) (.cons b1 (.cons b2 .nil))) np
    rcases hwd with rfl | rfl
    · exact q _ (.bo true t1 t2) _ (k6.trans (Kp.of s7)) (w6.to s7) d7 (ga _)
    · exact q _ (.bo false t1 t2) _ (k6.trans (Kp.of s7)) (w6.to s7) d7 (ga _)
  · refine ⟨_, rfl, _, rfl, _, rfl, sz (by simp), fun p np => ?_⟩
    obtain ⟨s7, d7⟩ := newT w6.some (DaAll.cons (.str wd) (.cons b2 (.cons b1 .nil))) np
    rcases hwd with rfl | rfl
    · exact q _ (.bo true t2 t1) _ (k6.trans (Kp.of s7)) (w6.to s7) d7 (gb _)
    · exact q _ (.bo false t2 t1) _ (k6.trans (Kp.of s7)) (w6.to s7) d7 (gb _)
theorem made_all (D : Def K mg "_law_made" sMade ["_law_well_here", "_law_some", "_law_deep"]) (nb : Nb mg) (c1 : Cal P w K mg base "_law_draw" 1 ["_law_well_here", "_law_many"] spDraw) (cP : Cal P w K mg base "_law_pick" 2 ["_law_well_here", "_law_some"] spPick) (cLf : Cal P w K mg base "_law_leaf" 3 ["_law_well_here", "_law_some"] spLeaf) : ∀ N : Nat, Cal P w K mg base "_law_made" (N + 4) ["_law_well_here", "_law_some", "_law_deep"] (spMade N)
  | 0 => by
    have no : ∀ vs H Q E, ¬ spMade 0 vs H Q E := fun vs H Q E h => by
      obtain ⟨a, L, ps, dp, _, _, h1, h2, _⟩ := h
      omega
    obtain ⟨f, fd, F, m, b⟩ := D
    exact ⟨f, fd, ⟨fun vs H Q E h => absurd h (no vs H Q E), fun A out s H g us vs Q E _ _ _ _ h => absurd h (no vs H Q E)⟩, m, F.kp, b, fdAt F⟩
  | N + 1 => made_step D nb c1 cP cLf (made_all D nb c1 cP cLf N)
end
end K44

set_option Elab.async false
set_option linter.all false
set_option maxRecDepth 100000
set_option maxHeartbeats 8000000
local macro_rules | `(tactic| walk_at "rd") => `(tactic| dsimp only [Evl.tCut, L2.tSeq, L2.tNext, L2.tRet, L2.tRetN, L2.tAsg, L2.gName, L2.tIfS, L2.tDrop, L2.tCons, L2.tNil, L2.tC, L2.tVar, L2.tCB, L2.tAndV, L2.tOrV, L2.tNotV, L2.tB, L2.tTest, L2.tOp, L2.tUn, L2.tNot, L2.tAnd, L2.tOr, L2.tIf, L2.tCall, L2.tTup, L2.tLst, L2.tNotT, L2.tYes, L2.gTup, L2.gCons, L2.gNil, L2.gSub, L2.tBM0, L2.tBM, L2.tWhile, L2.tFor, L2.iRng1, L2.iRng2, L2.tAugS, Tw.iEnumT, L2.tCKw, L2.tAug, L2.ipI, RT.iRevA, L2.tPar, L2.tPar3, L2.tSl, L2.tNoPart, L2.tPart, Tw.tRevT, Tw.tFput])
namespace K44
open PySem PySem.Spec PyProof.Rows L2 Tw
open K44R (polyD okP okR exch lng T numAt nums co g rw' trimI trimP col Ro RoA Po Pr Bd RelA Stable stable_ro stable_eq lc_relT lc_relL wipeJ Kt kt_upd max_lng RoA.kt Kt.of RelA.eq_map lng_bd)
theorem trimP_self {l : List (List Int)} (h : ∀ r, l.getLast? = some r → r ≠ []) : trimP l = l := by
  have e := K44R.trimBy_take (fun r : List Int => r.isEmpty) l l.length (Nat.le_refl _) (fun i a hi ea => by rw [List.getElem?_eq_none hi] at ea; cases ea) (by
    by_cases z : l.length = 0
    · exact .inl z
    · refine .inr ⟨l[l.length - 1], List.getElem?_eq_getElem (by omega), ?_⟩
      have := h _ (by rw [List.getLast?_eq_getElem?, List.getElem?_eq_getElem (show l.length - 1 < l.length by omega)])
      cases e : l[l.length - 1] with
      | nil => exact absurd e this
      | cons _ _ => rfl)
  rw [show trimP l = K44R.trimBy (fun r : List Int => r.isEmpty) l from rfl, e, List.take_length]
theorem lng_row : ∀ {p : List (List Int)}, 0 < lng p → ∃ r ∈ p, r.length = lng p
  | [], h => absurd h (Nat.lt_irrefl 0)
  | r :: p, h => by
    by_cases c : lng p ≤ r.length
    · exact ⟨r, by simp, by show r.length = max r.length (lng p); omega⟩
    · obtain ⟨s, hs, e⟩ := lng_row (p := p) (by omega)
      exact ⟨s, by simp [hs], by show s.length = max r.length (lng p); omega⟩
theorem zero_all : ∀ {l : List Int}, trimI l = [] → ∀ c ∈ l, c = 0
  | [], _, c, m => nomatch m
  | a :: l, h, c, m => by
    have h : K44R.trimBy (fun c : Int => c == 0) (a :: l) = [] := h
    rw [K44R.trimBy] at h
    split at h
    · rename_i e
      split at h
      · rename_i za
        rcases List.mem_cons.mp m with rfl | m
        · simpa using za
        · exact zero_all e c m
      · cases h
    · cases h
theorem turn_exch {p : List (List Int)} (h : okP p) : (List.range (lng p)).map (col p) = exch p := by
  refine (trimP_self fun r hr => ?_).symm
  rw [List.getLast?_map] at hr
  by_cases z : lng p = 0
  · rw [z] at hr; cases hr
  · have e : (List.range (lng p)).getLast? = some (lng p - 1) := by
      rw [List.getLast?_eq_getElem?, List.length_range, List.getElem?_range (by omega)]
    rw [e] at hr
    cases hr
    obtain ⟨s, hs, hl⟩ := lng_row (p := p) (by omega)
    intro hc
    have ne : s ≠ [] := fun y => by rw [y] at hl; simp at hl; omega
    obtain ⟨c, g1, g2, _⟩ := last_some ne
    refine h.1 s hs c g1 ?_
    have h0 := zero_all hc c (by
      refine List.mem_map.mpr ⟨s, hs, ?_⟩
      show s.getD (lng p - 1) 0 = c
      rw [List.getD_eq_getElem?_getD, ← hl, g2]
      rfl)
    exact h0
def spTurned : Sp := fun vs H Q _ => ∃ u p b, vs = [u] ∧ Po H u p ∧ okP p ∧ Bd 8 b p ∧ ∀ v H', Same H H' → Po H' v (exch p) → Q v H'
section
variable {P : Program} {w : World} {K : PySem.W.Frag} {mg : Str → Option Value} {base : Heap}
theorem scTurned : FnScope ["_law_poly_here", "_law_found", "_law_at", "_law_row_here"] ["_law_poly_here"] (defScope sTurned) := ⟨rfl, rfl, rfl, by decide +kernel, rfl, by decide +kernel, by decide +kernel⟩
theorem ok_turned (D : Def K mg "_law_turned" sTurned ["_law_poly_here"]) (nb : Nb mg) (c2 : Cal P w K mg base "_law_row" 1 ["_law_some"] spLRow) : Cal P w K mg base "_law_turned" 2 ["_law_poly_here"] spTurned := by
  refine D.ok scTurned (fun vs H Q E h => ?_) (fun f cdv A out s H vs Q E hr h => ?_)
  · obtain ⟨u, p, b, rfl, _⟩ := h; rfl
  obtain ⟨u, p, b, rfl, hp, hok, hb, q⟩ := h
  refine ⟨_, pss_cons (ps_set (i := 1) scTurned.nd rfl (Or.inl rfl) (pe_lst pa_nil))
    (pss_cons (ps_for PassesOwn.never rfl (pi_range1 (by rfl) nb.rng (pa_cons (pe_callB (id := "max") (r := rMax K) (cr_max rfl) (by rfl) nb.max (by decide +kernel) (pa_cons (pe_op op_cat
          (pe_lc (own := [("_law_row_here", 3)]) (g := gName 3) (tt := tYes) rfl scTurned.nd (pi_tup (pv 0)) (blkOk_by (N := ["_law_poly_here", "_law_found", "_law_at", "_law_row_here"]) (sc := defScope sTurned) (by decide +kernel))
            (fun _ _ _ _ _ => pg_name (i := 3) scTurned.nd rfl (Or.inl rfl)) (fun _ _ _ _ _ => pts_nil) (fun _ _ _ _ _ => pe_callB (id := "len") (r := rLn K) call_len_seq (by rfl) nb.len PySem.boot_len (pa_cons (pv 3) pa_nil))) (pe_lst (pa_cons pe_int pa_nil))) pa_nil)) pa_nil))
        (pg_name (i := 2) scTurned.nd rfl (Or.inr rfl))
        (pss_one (ps_expr (pe_bm PySem.F.plainAttrs_list PySem.F.slot_list_append PySem.F.type_list_append mt_append (pv 1) (pa_cons (pe_cal c2 hr (by decide) (by rfl) (pa_cons
          (pe_lc (own := [("_law_row_here", 3)]) (g := gName 3) (tt := tYes) rfl scTurned.nd (pi_tup (pv 0)) (blkOk_by (N := ["_law_poly_here", "_law_found", "_law_at", "_law_row_here"]) (sc := defScope sTurned) (by decide +kernel))
            (fun _ _ _ _ _ => pg_name (i := 3) scTurned.nd rfl (Or.inl rfl)) (fun _ _ _ _ _ => pts_nil)
            (fun _ _ _ _ _ => pe_ifExp (pt_cmpR op_lt (pv 2) (pe_callB (id := "len") (r := rLn K) call_len_seq (by rfl) nb.len PySem.boot_len (pa_cons (pv 3) pa_nil)) (nomark _)) (pe_ix (r := rIxT K) ix_tup (pv 3) (pv 2) (fun _ _ => rfl)) pe_int)) pa_nil)) pa_nil)))))
    (pss_one (ps_ret (pe_callTy (T := "tuple") call_tuple_of (by rfl) nb.tup (by decide +kernel) (pa_cons (pv 1) pa_nil))))), ?_⟩
  walk_at "rd"
  obtain ⟨pu, xs, rfl, eu, hx⟩ := hp
  refine ⟨sz (by simp), fun L nL => ?_⟩
  have s0 := same_new (o := .lst []) nL
  have eL : upd H L (.lst []) L = some (.lst []) := upd_same
  generalize upd H L (.lst []) = H0 at s0 eL ⊢
  have hx1 := RoA.kt (Kt.of s0) hx
  have lb := hb.1
  refine lc_relT (S := Ro) (R := fun _ v k => v = V.int k) (g := fun r => ((r.length : Nat) : Int)) (rs := p) (p := pu) (xs := xs) stable_ro (stable_eq _) rfl (s0 _ _ eu) hx1 (by omega) (fun x => wipeJ _ _ _) (fun x r H2 hr2 s2 rx Z hZ => ?_) fun D ys H2 s2 nD eD ry => ?_
  · obtain ⟨pr, rfl, er⟩ := rx
    exact ⟨.ref pr, rfl, pr, _, rfl, .inr (SqT.of er), hZ _ _ (Same.refl _) (by rw [List.length_map])⟩
  have ey : ys = (p.map fun r => ((r.length : Nat) : Int)).map V.int := RelA.eq_map ry
  subst ey
  refine ⟨sz (by simp), fun L1 nL1 => ?_⟩
  have s1 := same_new (o := .lst [.int 0]) nL1
  have eL1 : upd H2 L1 (.lst [.int 0]) L1 = some (.lst [.int 0]) := upd_same
  generalize upd H2 L1 (.lst [.int 0]) = H1 at s1 eL1 ⊢
  refine ⟨D, L1, _, _, rfl, rfl, s1 _ _ eD, eL1, sz (by simp; omega), fun D2 nD2 => ?_⟩
  have s3 := ((s0.trans s2).trans s1).trans (same_new (o := .lst ((p.map fun r => ((r.length : Nat) : Int)).map V.int ++ [.int 0])) nD2)
  have eD2 : upd H1 D2 (.lst ((p.map fun r => ((r.length : Nat) : Int)).map V.int ++ [.int 0])) D2 = some (.lst (((p.map fun r => ((r.length : Nat) : Int)) ++ [(0 : Int)]).map V.int)) := by rw [upd_same, List.map_append]; rfl
  have eL3 : upd H1 D2 (.lst ((p.map fun r => ((r.length : Nat) : Int)).map V.int ++ [.int 0])) L = some (.lst []) := ((s2.trans s1).trans (same_new nD2)) _ _ eL
  generalize upd H1 D2 _ = H3 at s3 eD2 eL3 ⊢
  refine ⟨D2, _, rfl, SqL.of eD2, by simp, fun k k1 k2 => ?_⟩
  have k1 : k ∈ (0 : Int) :: p.map (fun r => (r.length : Int)) := by
    rcases List.mem_append.mp k1 with h | h
    · exact List.mem_cons_of_mem _ h
    · rw [List.mem_singleton.mp h]; exact List.mem_cons_self
  have k2 : ∀ y ∈ (0 : Int) :: p.map (fun r => (r.length : Int)), y ≤ k := fun y hy => k2 y (by
    rcases List.mem_cons.mp hy with h | h
    · exact List.mem_append_right _ (by rw [h]; simp)
    · exact List.mem_append_left _ h)
  have ek := max_lng k1 k2
  subst ek
  have l8 : lng p ≤ 8 := lng_bd fun r hr => (hb.2 r hr).1
  refine ⟨_, rfl, by omega, by omega, for_rng (lo := 0) (n := (lng p : Int).toNat) (fun i σ H' => ∃ (x2 : Option V) (ys : List V), σ = [some (.ref pu), some (.ref L), x2, none] ∧ Same H H' ∧ H' L = some (.lst ys) ∧ RelA Ro H' ys ((List.range i).map (col p))) ?_ ?_ ?_⟩
  · exact ⟨none, [], rfl, s3, eL3, rfl, fun i v e => by simp at e⟩
  · rintro i σ H4 hi ⟨x2, ys, rfl, s4, e4, r4⟩
    walk_at "rd"
    refine ⟨.ref L, rfl, .inl ⟨rfl, _, SqL.of e4⟩, ?_⟩
    refine lc_relT (S := Ro) (R := fun _ v k => v = V.int k) (g := fun r => r.getD i 0) (rs := p) (p := pu) (xs := xs) stable_ro (stable_eq _) rfl (s4 _ _ eu) (RoA.kt (Kt.of s4) hx) (by omega) (fun x => wipeJ _ _ _) (fun x r H5 hr5 s5 rx Z hZ => ?_) fun D ys2 H5 s5 nD eD ry => ?_
    · obtain ⟨pr, rfl, er⟩ := rx
      walk_at "rd"
      refine ⟨.int (0 + (i : Int)), rfl, .ref pr, rfl, pr, _, rfl, .inr (SqT.of er), _, _, rfl, rfl, _, rfl, ite2 (fun c => ?_) (fun c => ?_)⟩
      · have c := of_decide_eq_true c
        rw [List.length_map] at c
        have hi2 : i < r.length := by omega
        refine ⟨.ref pr, rfl, .int (0 + (i : Int)), rfl, pr, _, _, .int (r.getD i 0), rfl, rfl, SqT.of er, ?_, hZ _ _ (Same.refl _) rfl⟩
        rw [Int.zero_add]
        refine atI_nat ?_
        rw [List.getElem?_map, List.getElem?_eq_getElem hi2, List.getD_eq_getElem?_getD, List.getElem?_eq_getElem hi2]
        rfl
      · have c : ¬ (i < r.length) := fun z => c (decide_eq_true (by rw [List.length_map]; omega))
        refine hZ _ _ (Same.refl _) ?_
        rw [List.getD_eq_getElem?_getD, List.getElem?_eq_none (by omega)]
        rfl
    have ey : ys2 = (p.map fun r => r.getD i 0).map V.int := RelA.eq_map ry
    subst ey
    refine ⟨D, _, rfl, eD, by rw [List.length_map]; omega, fun v H6 s6 r6 => ⟨L, ys, v, rfl, rfl, (s5.trans s6) _ _ e4, ?_, ?_⟩⟩
    · have := r4.1
      rw [List.length_map, List.length_range] at this
      exact lt_line (by omega)
    · have e6 := (s5.trans s6) _ _ e4
      refine ⟨some (.int (0 + (i : Int))), ys ++ [v], rfl, ?_, upd_same, ?_⟩
      · exact same_upd ((s4.trans s5).trans s6) nL
      · rw [List.range_succ, List.map_append]
        exact ((r4.kt stable_ro (Kt.of (s5.trans s6))).snoc r6).kt stable_ro (kt_upd e6)
  · rintro σ H4 ⟨x2, ys, rfl, s4, e4, r4⟩
    refine ⟨.ref L, rfl, L, ys, rfl, .inl ⟨SqL.of e4, fun z nz => q _ _ (s4.trans (same_new nz)) ⟨z, ys, rfl, upd_same, ?_⟩⟩⟩
    rw [Int.toNat_natCast] at r4
    rw [← turn_exch hok]
    exact RoA.kt (Kt.of (same_new nz)) r4
end
end K44

set_option Elab.async false
set_option linter.all false
set_option maxRecDepth 100000
set_option maxHeartbeats 8000000
local macro_rules | `(tactic| walk_at "rd") => `(tactic| dsimp only [Evl.tCut, L2.tSeq, L2.tNext, L2.tRet, L2.tRetN, L2.tAsg, L2.gName, L2.tIfS, L2.tDrop, L2.tCons, L2.tNil, L2.tC, L2.tVar, L2.tCB, L2.tAndV, L2.tOrV, L2.tNotV, L2.tB, L2.tTest, L2.tOp, L2.tUn, L2.tNot, L2.tAnd, L2.tOr, L2.tIf, L2.tCall, L2.tTup, L2.tLst, L2.tNotT, L2.tYes, L2.gTup, L2.gCons, L2.gNil, L2.gSub, L2.tBM0, L2.tBM, L2.tWhile, L2.tFor, L2.iRng1, L2.iRng2, L2.tAugS, Tw.iEnumT, L2.tCKw, L2.tAug, L2.ipI, RT.iRevA, L2.tPar, L2.tPar3, L2.tSl, L2.tNoPart, L2.tPart, Tw.tRevT, Tw.tFput])
namespace K44
open PySem PySem.Spec PyProof.Rows L2 Tw
open K44R (polyD okP okR exch lng T numAt nums co g rw' trimI trimP col Ro RoA Po Pr Bd RelA Stable stable_ro stable_eq lc_relT lc_relL wipeJ Kt kt_upd max_lng RoA.kt Kt.of RelA.eq_map lng_bd)
theorem T_pad (n m : Int) (k : Nat) : ∀ r : List Int, T n m (r ++ List.replicate k 0) = T n m r * m ^ k
  | [] => by
    show T n m ([] ++ List.replicate k 0) = 0 * m ^ k
    rw [List.nil_append, Int.zero_mul]
    induction k with
    | zero => rfl
    | succ k ih =>
      rw [List.replicate_succ]
      show T n m (List.replicate k 0) * n + 0 * _ = 0
      rw [ih]; simp
  | c :: r => by
    show T n m (r ++ List.replicate k 0) * n + c * m ^ (r ++ List.replicate k 0).length = (T n m r * n + c * m ^ r.length) * m ^ k
    rw [T_pad n m k r, List.length_append, List.length_replicate, Int.pow_add, Int.add_mul]
    congr 1
    · rw [Int.mul_assoc, Int.mul_assoc, Int.mul_comm (m ^ k) n]
    · rw [Int.mul_assoc]
theorem trim_one (v : Int) : trimI [v] = if v = 0 then [] else [v] := by
  show K44R.trimBy _ [v] = _
  rw [K44R.trimBy]
  show (if (v == 0) = true then [] else [v]) = _
  by_cases h : v = 0
  · subst h; rfl
  · have : (v == 0) = false := by simpa using h
    rw [this, if_neg h]; rfl
/-- a row of one number -/
def rv (n m : Int) (L : Nat) (r : List Int) : List Int := if numAt n m L r = 0 then [] else [numAt n m L r]
theorem rep_flat (k : Nat) : (List.replicate k [V.int 0]).flatten = (List.replicate k (0 : Int)).map V.int := by
  induction k with
  | zero => rfl
  | succ k ih => rw [List.replicate_succ, List.replicate_succ, List.flatten_cons, ih]; rfl
def spLScaled : Sp := fun vs H Q _ => ∃ (L : Addr) (f : V) (r : List Int) (n m : Int), vs = [.ref L, f] ∧ H L = some (.lst (r.map V.int)) ∧ Pr H f n m ∧ n.natAbs < 2 ^ 24 ∧ 0 < m ∧ m < 2 ^ 24 ∧ r.length ≤ 8 ∧ (∀ c ∈ r, c.natAbs < 2 ^ 100) ∧ ∀ H', Same H H' → Q (.int (T n m r)) H'
def spLPut : Sp := fun vs H Q _ => ∃ (u f : V) (x : Bool) (p : List (List Int)) (n m : Int), vs = [u, .str (if x then "x" else "y"), f] ∧ Po H u p ∧ okP p ∧ Pr H f n m ∧ p.length ≤ 5 ∧ (∀ r ∈ p, r.length ≤ 5 ∧ ∀ c ∈ r, c.natAbs < 2 ^ 100) ∧ n.natAbs < 2 ^ 24 ∧ 0 < m ∧ m < 2 ^ 24 ∧ ∀ v H', Same H H' → Po H' v (if x then putX p n m else putY p n m) → Q v H'
section
variable {P : Program} {w : World} {K : PySem.W.Frag} {mg : Str → Option Value} {base : Heap}
theorem scLScaled : FnScope ["_law_row_here", "_law_spot", "_law_found", "_law_by", "_law_each"] ["_law_row_here", "_law_spot"] (defScope sLScaled) := ⟨rfl, rfl, rfl, by decide +kernel, rfl, by decide +kernel, by decide +kernel⟩
theorem ok_lscaled (D : Def K mg "_law_scaled" sLScaled ["_law_row_here", "_law_spot"]) : Cal P w K mg base "_law_scaled" 1 ["_law_row_here", "_law_spot"] spLScaled := by
  refine D.ok scLScaled (fun vs H Q E h => ?_) (fun f cdv A out s H vs Q E hr h => ?_)
  · obtain ⟨L, f, r, n, m, rfl, _⟩ := h; rfl
  obtain ⟨L, fr, r, n, m, rfl, eL, hf, n1, m0, m1, hl, hc, q⟩ := h
  refine ⟨_, (pss_cons (ps_asg (pe_tup (pa_cons pe_int (pa_cons pe_int pa_nil))) (pg_tup rfl (pgs_cons (pg_name (i := 2) scLScaled.nd rfl (Or.inl rfl)) (pgs_cons (pg_name (i := 3) scLScaled.nd rfl (Or.inl rfl)) pgs_nil))))
    (pss_cons (ps_for PassesOwn.never rfl (pi_list (pe_revL (pv 0))) (pg_name (i := 4) scLScaled.nd rfl (Or.inl rfl)) (pss_one (ps_par (i := 2) (j := 3) rfl scLScaled.nd rfl rfl (by decide) rfl rfl (pa_cons (pe_op op_add (pe_op op_mul (pv 2) (pe_ix (r := rIxT K) ix_tup (pv 1) pe_int (fun _ _ => rfl))) (pe_op op_mulW (pv 4) (pv 3))) (pa_cons (pe_op op_mulW (pv 3) (pe_ix (r := rIxT K) ix_tup (pv 1) pe_int (fun _ _ => rfl))) pa_nil)) rfl)))
    (pss_one (ps_ret (pv 2))))), ?_⟩
  walk_at "rd"
  have pk : ∀ k, k ≤ 8 → m ^ k ≤ 2 ^ 192 := fun k hk => K44R.pow_leW m0 m1 hk
  refine ⟨sz (by simp), fun t nt => ⟨t, _, rfl, SqT.of upd_same, rfl, _, _, rfl, _, _, rfl, rfl, ?_⟩⟩
  have s0 := same_new (o := .tup [.int 0, .int 1]) nt
  have eL := s0 _ _ eL
  generalize upd H t _ = H0 at s0 eL ⊢
  refine ⟨.ref L, rfl, L, _, rfl, SqL.of eL, fun c nc => ?_⟩
  have s1 := s0.trans (same_new (o := .lst (r.map V.int).reverse) nc)
  have ec : upd H0 c (.lst (r.map V.int).reverse) c = some (.lst (r.map V.int).reverse) := upd_same
  have hf1 := hf.kt (Kt.of s1)
  generalize upd H0 c _ = H1 at s1 ec hf1 ⊢
  refine ⟨c, rfl, ⟨_, SqL.of ec⟩, for_lst (xs := (r.map V.int).reverse) (fun i σ H' => ∃ (x5 : Option V), σ = [some (.ref L), some fr, some (.int (T n m (r.drop (r.length - i)))), some (.int (m ^ (r.drop (r.length - i)).length)), x5] ∧ H' = H1) ?_ ?_ ?_ ?_⟩
  · refine ⟨none, ?_, rfl⟩
    rw [Nat.sub_zero, List.drop_length, show (m ^ ([] : List Int).length : Int) = 1 from Int.pow_zero m]
    rfl
  · rintro i σ H2 hi ⟨x5, rfl, rfl⟩
    exact SqL.of ec
  · rintro i x σ H2 hx ⟨x5, rfl, rfl⟩
    have hi : i < (r.map V.int).reverse.length := (List.getElem?_eq_some_iff.mp hx).1
    rw [List.length_reverse, List.length_map] at hi
    have hix : r.length - 1 - i < r.length := by omega
    rw [List.getElem?_reverse (by rw [List.length_map]; exact hi), List.length_map, List.getElem?_map, List.getElem?_eq_getElem hix] at hx
    cases hx
    have ls : (r.drop (r.length - i)).length = i := by rw [List.length_drop]; omega
    have dt := K44R.drop_top hi
    generalize r.drop (r.length - i) = sfx at ls dt ⊢
    rw [dt]
    have p0 := K44R.pow_pos' m0 sfx.length
    have p1 := pk sfx.length (by omega)
    have hci := hc _ (List.getElem_mem hix)
    refine ⟨.int (T n m sfx), rfl, fr, rfl, hf1.ix0 ⟨_, _, rfl, rfl, .inr ⟨by omega, by omega⟩, .int _, rfl, .int _, rfl, _, _, rfl, rfl, K44R.cmulW (by omega) (by omega), _, _, rfl, rfl, .int _, rfl, fr, rfl, hf1.ix1 ⟨_, _, rfl, rfl, K44R.cmulW (by omega) (by omega), _, _, rfl, some (.int r[r.length - 1 - i]), ?_, rfl⟩⟩⟩
    show [some (V.ref L), some fr, some (V.int (T n m sfx * n + r[r.length - 1 - i] * m ^ sfx.length)), some (V.int (m ^ sfx.length * m)), some (V.int r[r.length - 1 - i])] = _
    rw [List.length_cons, Int.pow_succ, T]
  · rintro σ H2 ⟨x5, rfl, rfl⟩
    refine ⟨_, rfl, ?_⟩
    rw [List.length_reverse, List.length_map, Nat.sub_self, List.drop_zero]
    exact q _ s1
theorem scLPut : FnScope ["_law_poly_here", "_law_letter", "_law_spot", "_law_row_here", "_law_found", "_law_most", "_law_at"] ["_law_poly_here", "_law_letter", "_law_spot"] (defScope sLPut) := ⟨rfl, rfl, rfl, by decide +kernel, rfl, by decide +kernel, by decide +kernel⟩
theorem ok_lput (D : Def K mg "_law_put" sLPut ["_law_poly_here", "_law_letter", "_law_spot"]) (nb : Nb mg) (cR : Cal P w K mg base "_law_row" 1 ["_law_some"] spLRow) (cS : Cal P w K mg base "_law_scaled" 1 ["_law_row_here", "_law_spot"] spLScaled) : Cal P w K mg base "_law_put" 2 ["_law_poly_here", "_law_letter", "_law_spot"] spLPut := by
  refine D.ok scLPut (fun vs H Q E h => ?_) (fun f cdv A out s H vs Q E hr h => ?_)
  · obtain ⟨u, fr, x, p, n, m, rfl, _⟩ := h; rfl
  obtain ⟨u, fr, x, p, n, m, rfl, hp, hok, hf, hl, hrow, hn, m0, m1, q⟩ := h
  refine ⟨_, (pss_cons (ps_if (pt_cmpR (op_eqT0 hr.units) (pv 0) (pe_tup pa_nil) (nomark _)) (pss_one (ps_ret (pe_tup pa_nil))) pss_nil)
    (pss_cons (ps_par (i := 4) (j := 5) rfl scLPut.nd rfl rfl (by decide) rfl rfl (pa_cons (pe_lst pa_nil) (pa_cons (pe_callB (id := "max") (r := rMax K) (cr_max rfl) (by rfl) nb.max (by decide +kernel) (pa_cons (pe_lc (own := [("_law_row_here", 3)]) (g := gName 3) (tt := tYes) rfl scLPut.nd (pi_tup (pv 0)) (blkOk_by (N := ["_law_poly_here", "_law_letter", "_law_spot", "_law_row_here", "_law_found", "_law_most", "_law_at"]) (sc := defScope sLPut) (by decide +kernel)) (fun _ _ _ _ _ => pg_name (i := 3) scLPut.nd rfl (Or.inl rfl)) (fun _ _ _ _ _ => pts_nil) (fun _ _ _ _ _ => (pe_callB (id := "len") (r := rLn K) call_len_seq (by rfl) nb.len PySem.boot_len (pa_cons (pv 3) pa_nil)))) pa_nil)) pa_nil)) rfl)
    (pss_cons (ps_if (pt_cmpR op_eq (pv 1) pe_str (nomark _)) (pss_cons (ps_for PassesOwn.never rfl (pi_tup (pv 0)) (pg_name (i := 3) scLPut.nd rfl (Or.inl rfl)) (pss_one (ps_expr (pe_bm PySem.F.plainAttrs_list PySem.F.slot_list_append PySem.F.type_list_append mt_append (pv 4) (pa_cons (pe_cal cR hr (by omega) (by rfl) (pa_cons (pe_lst (pa_cons (pe_cal cS hr (by omega) (by rfl) (pa_cons (pe_op op_cat (pe_callTy (T := "list") call_list_of (by rfl) nb.lst (by decide +kernel) (pa_cons (pv 3) pa_nil)) (pe_op op_rep (pe_lst (pa_cons pe_int pa_nil)) (pe_op op_sub (pv 5) (pe_callB (id := "len") (r := rLn K) call_len_seq (by rfl) nb.len PySem.boot_len (pa_cons (pv 3) pa_nil))))) (pa_cons (pv 2) pa_nil))) pa_nil)) pa_nil)) pa_nil)))))
    (pss_cons (ps_while PassesOwn.never (PW.pt (pw_and (pt_cmpR (op_neD hr.units) (pv 4) (pe_lst pa_nil) (nomark _)) (pw_and1 (pt_cmpR (op_eqT0 hr.units) (pe_ix ix_list (pv 4) (pe_un un_neg pe_int) (fun _ _ => rfl)) (pe_tup pa_nil) (nomark _))))) (pss_one (ps_expr (pe_bm0 PySem.F.plainAttrs_list PySem.F.slot_list_pop PySem.F.type_list_pop mt_pop (pv 4)))))
    (pss_one (ps_ret (pe_callTy (T := "tuple") call_tuple_of (by rfl) nb.tup (by decide +kernel) (pa_cons (pv 4) pa_nil)))))) pss_nil)
    (pss_cons (ps_for PassesOwn.never rfl (pi_range1 (by rfl) nb.rng (pa_cons (pv 5) pa_nil)) (pg_name (i := 6) scLPut.nd rfl (Or.inr rfl)) (pss_one (ps_expr (pe_bm PySem.F.plainAttrs_list PySem.F.slot_list_append PySem.F.type_list_append mt_append (pv 4) (pa_cons (pe_cal cS hr (by omega) (by rfl) (pa_cons (pe_lc (own := [("_law_row_here", 3)]) (g := gName 3) (tt := tYes) rfl scLPut.nd (pi_tup (pv 0)) (blkOk_by (N := ["_law_poly_here", "_law_letter", "_law_spot", "_law_row_here", "_law_found", "_law_most", "_law_at"]) (sc := defScope sLPut) (by decide +kernel)) (fun _ _ _ _ _ => pg_name (i := 3) scLPut.nd rfl (Or.inl rfl)) (fun _ _ _ _ _ => pts_nil) (fun _ _ _ _ _ => (pe_ifExp (pt_cmpR op_lt (pv 6) (pe_callB (id := "len") (r := rLn K) call_len_seq (by rfl) nb.len PySem.boot_len (pa_cons (pv 3) pa_nil)) (nomark _)) (pe_ix (r := rIxT K) ix_tup (pv 3) (pv 6) (fun _ _ => rfl)) pe_int))) (pa_cons (pv 2) pa_nil))) pa_nil)))))
    (pss_cons (ps_set (i := 3) scLPut.nd rfl (Or.inl rfl) (pe_cal cR hr (by omega) (by rfl) (pa_cons (pv 4) pa_nil)))
    (pss_one (ps_ret (pe_ifExp (pt_cmpR (op_neT0 hr.units) (pv 3) (pe_tup pa_nil) (nomark _)) (pe_tup (pa_cons (pv 3) pa_nil)) (pe_tup pa_nil))))))))), ?_⟩
  walk_at "rd"
  obtain ⟨pu, xp, rfl, eu, hx⟩ := hp
  refine ⟨.ref pu, rfl, sz (by decide), fun t nt => ?_⟩
  have s0 := same_new (o := .tup []) nt
  refine ⟨pu, t, xp, [], rfl, rfl, SqT.of (s0 _ _ eu), SqT.of upd_same, rfl, _, rfl, ?_⟩
  rw [if_neg Bool.false_ne_true]
  have lxp := hx.1
  by_cases hnil : p = []
  · subst hnil
    have : xp = [] := List.eq_nil_of_length_eq_zero lxp
    subst this
    refine iteT ⟨sz (by decide), fun z nz => q _ _ (s0.trans (same_new nz)) ?_⟩
    cases x <;> exact ⟨z, [], rfl, upd_same, K44R.RoA.nil _⟩
  have hne : xp.isEmpty = false := by
    cases xp with
    | nil => exact absurd (List.eq_nil_of_length_eq_zero (by simpa using lxp.symm)) hnil
    | cons _ _ => rfl
  rw [hne]
  have eu0 := s0 _ _ eu
  have hx0 := RoA.kt (Kt.of s0) hx
  have hf0 := hf.kt (Kt.of s0)
  generalize upd H t (.tup []) = H0 at s0 eu0 hx0 hf0 ⊢
  refine iteF ⟨sz (by decide), fun L nL0 => ?_⟩
  have nL : H L = none := s0.free nL0
  have s1 := s0.trans (same_new (o := .lst []) nL0)
  have eL1 : upd H0 L (.lst []) L = some (.lst []) := upd_same
  have eu1 := same_new (o := .lst []) nL0 _ _ eu0
  have hx1 := RoA.kt (Kt.of (same_new (o := .lst []) nL0)) hx0
  generalize upd H0 L (.lst []) = H1 at s1 eL1 eu1 hx1 ⊢
  refine lc_relT (S := Ro) (R := fun _ v k => v = V.int k) (g := fun r => ((r.length : Nat) : Int)) (rs := p) (p := pu) (xs := xp) stable_ro (stable_eq _) rfl eu1 hx1 (by omega) (fun x => wipeJ _ _ _) (fun y r H2 hr2 s2 rx Z hZ => ?_) fun D ys H2 s2 nD eD ry => ?_
  · obtain ⟨pr, rfl, er⟩ := rx
    exact ⟨.ref pr, rfl, pr, _, rfl, .inr (SqT.of er), hZ _ _ (Same.refl _) (by rw [List.length_map])⟩
  have ey : ys = (p.map fun r => ((r.length : Nat) : Int)).map V.int := RelA.eq_map ry
  subst ey
  refine ⟨D, _, rfl, SqL.of eD, by rw [List.length_map]; exact List.length_pos_iff.mpr hnil, fun k k1 k2 => ?_⟩
  have kn : 0 ≤ k := by
    obtain ⟨r, _, rfl⟩ := List.mem_map.mp k1
    omega
  have ek := max_lng (p := p) (List.mem_cons_of_mem _ k1) fun y hy => by
    rcases List.mem_cons.mp hy with rfl | hy
    · exact kn
    · exact k2 y hy
  subst ek
  have l5 : lng p ≤ 5 := lng_bd fun r hr => (hrow r hr).1
  have eL2 := s2 _ _ eL1
  have eu2 := s2 _ _ eu1
  have hx2 := RoA.kt (Kt.of s2) hx1
  have s2 := s1.trans s2
  have hf2 := hf.kt (Kt.of s2)
  refine ⟨_, _, rfl, .str _, rfl, rfl, _, rfl, ?_⟩
  rw [show decide (V.str (if x then ("x" : Str) else "y") = V.str "x") = x from by cases x <;> decide]
  cases x with
  | true =>
    have q : ∀ v H', Same H H' → Po H' v (putX p n m) → Q v H' := q
    refine iteT ⟨.ref pu, rfl, pu, rfl, ⟨_, SqT.of eu2⟩, for_tup (xs := xp) (fun i σ H' => ∃ (x3 : Option V) (ys : List V), σ = [some (.ref pu), some (.str "x"), some fr, x3, some (.ref L), some (.int (lng p : Int)), none] ∧ Same H H' ∧ H' L = some (.lst ys) ∧ RoA H' ys ((p.take i).map (rv n m (lng p)))) ?_ ?_ ?_ ?_⟩
    · exact ⟨none, [], rfl, s2, eL2, K44R.RoA.nil _⟩
    · rintro i σ H3 hi ⟨x3, ys, rfl, s3, e3, r3⟩
      exact SqT.of (s3 _ _ eu)
    · rintro i y σ H3 hy ⟨x3, ys, rfl, s3, e3, r3⟩
      obtain ⟨r, g1, pr, rfl, er⟩ := hx.2 i y hy
      have hr2 : r ∈ p := List.mem_of_getElem? g1
      obtain ⟨r5, rc⟩ := hrow r hr2
      have hlr := K44R.lng_le hr2
      have er3 := s3 _ _ er
      have hi : i < p.length := (List.getElem?_eq_some_iff.mp g1).1
      have ly : ys.length = i := by rw [r3.1, List.length_map, List.length_take]; omega
      refine ⟨.ref L, rfl, .inl ⟨rfl, _, SqL.of e3⟩, ?_⟩
      first | walk_at "rd" | skip
      refine ⟨.ref pr, rfl, pr, _, rfl, .inr (SqT.of er3), fun q0 n0 => ?_⟩
      have s4 := same_new (o := .lst (r.map V.int)) n0
      have e0 : upd H3 q0 (.lst (r.map V.int)) q0 = some (.lst (r.map V.int)) := upd_same
      generalize upd H3 q0 _ = H4 at s4 e0 ⊢
      refine ⟨sz (by simp), fun q1 n1 => ?_⟩
      have s5 := same_new (o := .lst [V.int 0]) n1
      have e1 : upd H4 q1 (.lst [V.int 0]) q1 = some (.lst [V.int 0]) := upd_same
      have e0 := s5 _ _ e0
      have s5 := s4.trans s5
      generalize upd H4 q1 _ = H5 at s5 e0 e1 ⊢
      refine ⟨.int (lng p : Int), rfl, .ref pr, rfl, pr, _, rfl, .inr (SqT.of (s5 _ _ er3)), _, _, rfl, rfl, q1, _, [.int 0], rfl, rfl, e1, ?_, ?_, ?_, fun q2 n2 => ?_⟩
      · rw [List.length_map]; omega
      · rw [List.length_map]; omega
      · rw [List.length_map]; exact sz (by simp; omega)
      rw [List.length_map]
      have ek : ((lng p : Int) - (r.length : Int)).toNat = lng p - r.length := by omega
      rw [ek]
      have s6 := same_new (o := .lst (List.replicate (lng p - r.length) [V.int 0]).flatten) n2
      have e2 : upd H5 q2 (.lst (List.replicate (lng p - r.length) [V.int 0]).flatten) q2 = some (.lst (List.replicate (lng p - r.length) [V.int 0]).flatten) := upd_same
      have e0 := s6 _ _ e0
      have s6 := s5.trans s6
      generalize upd H5 q2 _ = H6 at s6 e0 e2 ⊢
      have lrep : (List.replicate (lng p - r.length) [V.int 0]).flatten = (List.replicate (lng p - r.length) (0 : Int)).map V.int := rep_flat _
      rw [lrep] at e2
      refine ⟨q0, q2, r.map V.int, _, rfl, rfl, e0, e2, sz (by simp; omega), fun q3 n3 => ?_⟩
      rw [← List.map_append]
      have s7 := same_new (o := .lst ((r ++ List.replicate (lng p - r.length) (0 : Int)).map V.int)) n3
      have e3' : upd H6 q3 (.lst ((r ++ List.replicate (lng p - r.length) (0 : Int)).map V.int)) q3 = some (.lst ((r ++ List.replicate (lng p - r.length) (0 : Int)).map V.int)) := upd_same
      have s7 := s6.trans s7
      generalize upd H6 q3 _ = H7 at s7 e3' ⊢
      refine ⟨fr, rfl, q3, fr, r ++ List.replicate (lng p - r.length) 0, n, m, rfl, e3', hf.kt (Kt.of (s3.trans s7)), hn, m0, m1, by rw [List.length_append, List.length_replicate]; omega, fun c hc => ?_, fun H8 s8 => ⟨sz (by simp), fun q4 n4 => ?_⟩⟩
      · rcases List.mem_append.mp hc with hc | hc
        · exact rc c hc
        · rw [List.eq_of_mem_replicate hc]; decide
      rw [T_pad]
      have e4 : upd H8 q4 (.lst [V.int (numAt n m (lng p) r)]) q4 = some (.lst (([numAt n m (lng p) r] : List Int).map V.int)) := upd_same
      have s9 := (s7.trans s8).trans (same_new (o := .lst [V.int (numAt n m (lng p) r)]) n4)
      show spLRow _ (upd H8 q4 (.lst [V.int (numAt n m (lng p) r)])) _ _
      generalize upd H8 q4 _ = H9 at s9 e4 ⊢
      refine ⟨q4, [numAt n m (lng p) r], rfl, e4, (show 1 ≤ 100 by decide), fun v H10 s10 r10 => ⟨L, ys, v, rfl, rfl, (s9.trans s10) _ _ e3, by rw [ly]; exact lt_line (by omega), ?_⟩⟩
      rw [trim_one] at r10
      have sA := s9.trans s10
      refine ⟨some (.ref pr), ys ++ [v], rfl, same_upd (s3.trans sA) nL, upd_same, ?_⟩
      rw [List.take_add_one, g1, Option.toList_some, List.map_append]
      exact ((r3.kt (Kt.of sA)).snoc r10).kt (kt_upd (sA _ _ e3))
    · rintro σ H5 ⟨x3, xs, rfl, s5, e5, r5⟩
      rw [lxp, List.take_length] at r5
      generalize hrs : p.map (rv n m (lng p)) = rs at r5
      have epx : trimP rs = putX p n m := by
        rw [← hrs]
        unfold putX K44R.nums
        rw [List.map_map]
        rfl
      have lx : xs.length = rs.length := r5.1
      let KK : Hp → Prop := fun H' => Same H H'
      have kk5 : KK H5 := s5
      have kks : ∀ H' H'', KK H' → Same H' H'' → KK H'' := fun H' H'' k s => Same.trans k s
      have kku : ∀ H' o, KK H' → KK (upd H' L o) := fun H' o k => same_upd k nL
      refine ⟨fun m σ H' => (∀ (i : Nat) r, m ≤ i → rs[i]? = some r → r.isEmpty = true) ∧ m ≤ rs.length ∧ σ = [some (.ref pu), some (.str "x"), some fr, x3, some (.ref L), some (.int (lng p : Int)), none] ∧ KK H' ∧ H' L = some (.lst (xs.take m)) ∧ RoA H' xs rs, ⟨rs.length, (fun i c hi e => by rw [List.getElem?_eq_none hi] at e; cases e), Nat.le_refl _, rfl, kk5, by rw [← lx, List.take_length]; exact e5, r5⟩, ?_⟩
      rintro m σ H6 ⟨hz, hm, rfl, k6, e6, r6⟩
      have fin : (m = 0 ∨ ∃ r, rs[m - 1]? = some r ∧ r.isEmpty = false) → ∀ H7, KK H7 → H7 L = some (.lst (xs.take m)) → RoA H7 xs rs → ∃ (p : Addr) (ys : List V), [V.ref L] = [.ref p] ∧ ((SqL K H7 p ys ∧ ∀ l, H7 l = none → Q (.ref l) (upd H7 l (.tup ys))) ∨ (SqT K H7 p ys ∧ Q (.ref p) H7)) := fun hlast H7 k7 e7 r7 => by
        have ep : trimP rs = rs.take m := K44R.trimBy_take _ rs m hm hz hlast
        refine ⟨L, _, rfl, .inl ⟨SqL.of e7, fun z nz => ?_⟩⟩
        have s8 := same_new (o := .tup (xs.take m)) nz
        refine q _ _ (Same.trans k7 s8) ⟨z, xs.take m, rfl, upd_same, ?_⟩
        rw [← epx, ep]
        exact (r7.take m).kt (Kt.of s8)
      refine ⟨.ref L, rfl, sz (by decide), fun t nt => ?_⟩
      have s7 := same_new (o := .lst []) nt
      have eT : upd H6 t (.lst []) t = some (.lst []) := upd_same
      have k7 := kks H6 _ k6 s7
      generalize upd H6 t (.lst []) = H7 at s7 eT k7 ⊢
      have e7 := s7 _ _ e6
      have r7 := r6.kt (K44R.Kt.of s7)
      have lay : (PyData.list ((rs.take m).map K44R.rowD)).canLay0 = true := by
        rw [PyData.canLay0]
        exact lay1_of fun e he => (by obtain ⟨r, _, rfl⟩ := List.mem_map.mp he; exact (rowD_lay r).1)
      have shp : SeqAt.shaped (.list ((rs.take m).map K44R.rowD)) = true := by
        unfold SeqAt.shaped
        rw [lay]
        have : PyData.depth (.list ((rs.take m).map K44R.rowD)) ≤ 2 := by
          rw [PyData.depth]
          exact Nat.succ_le_succ (dpt1_le fun e he => (by obtain ⟨r, _, rfl⟩ := List.mem_map.mp he; exact (rowD_lay r).2))
        rw [decide_eq_true (by omega)]
        rfl
      refine ⟨.list ((rs.take m).map K44R.rowD), .list [], dp_ro e7 (r7.take m) lay, .lst (SqL.of eT) .nil, shp, by decide, _, rfl, ?_⟩
      cases m with
      | zero => exact iteF ⟨.ref L, rfl, fin (.inl rfl) H7 k7 e7 r7⟩
      | succ j =>
        have hj : j < xs.length := by omega
        have hjd : j < rs.length := by omega
        have et : xs.take (j + 1) = xs.take j ++ [xs[j]] := by rw [List.take_add_one, List.getElem?_eq_getElem hj]; rfl
        have ed : rs.take (j + 1) = rs.take j ++ [rs[j]] := by rw [List.take_add_one, List.getElem?_eq_getElem hjd]; rfl
        have ne : (!PyData.eqv (.list ((rs.take (j + 1)).map K44R.rowD)) (.list [])) = true := by
          rw [ed]
          cases rs.take j <;> simp [PyData.eqv, PyData.eqvAll]
        rw [ne]
        obtain ⟨r, g1, pj, ej, hpj⟩ := r7.2 j _ (List.getElem?_eq_getElem hj)
        have er : r = rs[j] := by rw [List.getElem?_eq_getElem hjd] at g1; cases g1; rfl
        subst er
        refine iteT ⟨.ref L, rfl, 1, rfl, L, _, -1, xs[j], rfl, rfl, SqL.of e7, by rw [et]; exact atI_last _ _, sz (by decide), fun t2 nt2 => ?_⟩
        have s8 := same_new (o := .tup []) nt2
        refine ⟨pj, t2, _, [], ej, rfl, SqT.of (s8 _ _ hpj), SqT.of upd_same, rfl, _, rfl, ?_⟩
        rw [if_neg Bool.false_ne_true]
        have k8 := kks H7 _ k7 s8
        have e8 := s8 _ _ e7
        have r8 := r7.kt (K44R.Kt.of s8)
        generalize upd H7 t2 (.tup []) = H8 at k8 e8 r8 ⊢
        have em : ((rs[j]).map V.int).isEmpty = (rs[j]).isEmpty := by cases rs[j] <;> rfl
        first | rw [em] | skip
        refine ite2 (fun y => ?_) (fun y => ⟨.ref L, rfl, fin (.inr ⟨rs[j], List.getElem?_eq_getElem hjd, by first | (cases h : (rs[j]).isEmpty with | true => exact absurd (by first | exact h | (rw [em]; exact h)) y | false => rfl)⟩) H8 k8 e8 r8⟩)
        refine ⟨fun σ' H' => σ' = [some (.ref pu), some (.str "x"), some fr, x3, some (.ref L), some (.int (lng p : Int)), none] ∧ KK H' ∧ H' L = some (.lst (xs.take j)) ∧ RoA H' xs rs, fun σ' H' h => ⟨j, by omega, (fun i c hi e => by
          rcases Nat.lt_or_eq_of_le hi with g | g
          · exact hz i c (by omega) e
          · subst g; rw [List.getElem?_eq_getElem hjd] at e; cases e; first | exact y | (rw [← em]; exact y)), by omega, h⟩, .ref L, rfl, .inl ⟨rfl, _, SqL.of e8⟩, ?_⟩
        refine ⟨L, xs.take (j + 1), xs[j], rfl, rfl, e8, getLast_get (by rw [et, List.getLast?_concat]), rfl, kku H8 _ k8, by rw [upd_same, et, List.dropLast_concat], ?_⟩
        exact r8.kt (K44R.kt_upd e8)
  | false =>
    have q : ∀ v H', Same H H' → Po H' v (putY p n m) → Q v H' := q
    rw [putY_law hok] at q
    refine iteF ⟨.int (lng p : Int), rfl, (lng p : Int), rfl, by omega, by omega, for_rng (lo := 0) (n := (lng p : Int).toNat) (fun i σ H' => ∃ x6 : Option V, σ = [some (.ref pu), some (.str "y"), some fr, none, some (.ref L), some (.int (lng p : Int)), x6] ∧ Same H H' ∧ H' L = some (.lst (((List.range i).map fun k => T n m (colf p k)).map V.int))) ?_ ?_ ?_⟩
    · exact ⟨none, rfl, s2, eL2⟩
    · rintro i σ H3 hi ⟨x6, rfl, s3, e3⟩
      walk_at "rd"
      refine ⟨.ref L, rfl, .inl ⟨rfl, _, SqL.of e3⟩, ?_⟩
      refine lc_relT (S := Ro) (R := fun _ v k => v = V.int k) (g := fun r => r.getD i 0) (rs := p) (p := pu) (xs := xp) stable_ro (stable_eq _) rfl (s3 _ _ eu) (RoA.kt (Kt.of s3) hx) (by omega) (fun x => wipeJ _ _ _) (fun y r H5 hr5 s5 rx Z hZ => ?_) fun D2 ys2 H5 s5 nD2 eD2 ry2 => ?_
      · obtain ⟨pr, rfl, er⟩ := rx
        walk_at "rd"
        refine ⟨.int (0 + (i : Int)), rfl, .ref pr, rfl, pr, _, rfl, .inr (SqT.of er), _, _, rfl, rfl, _, rfl, ite2 (fun c => ?_) (fun c => ?_)⟩
        · have c := of_decide_eq_true c
          rw [List.length_map] at c
          have hi2 : i < r.length := by omega
          refine ⟨.ref pr, rfl, .int (0 + (i : Int)), rfl, pr, _, _, .int (r.getD i 0), rfl, rfl, SqT.of er, ?_, hZ _ _ (Same.refl _) rfl⟩
          rw [Int.zero_add]
          refine atI_nat ?_
          rw [List.getElem?_map, List.getElem?_eq_getElem hi2, List.getD_eq_getElem?_getD, List.getElem?_eq_getElem hi2]
          rfl
        · have c : ¬ (i < r.length) := fun z => c (decide_eq_true (by rw [List.length_map]; omega))
          refine hZ _ _ (Same.refl _) ?_
          rw [List.getD_eq_getElem?_getD, List.getElem?_eq_none (by omega)]
          rfl
      have ey : ys2 = (colf p i).map V.int := RelA.eq_map ry2
      subst ey
      refine ⟨fr, rfl, D2, fr, colf p i, n, m, rfl, eD2, hf.kt (Kt.of (s3.trans s5)), hn, m0, m1, by unfold colf; rw [List.length_map]; omega, fun c hc => ?_, fun H6 s6 => ⟨L, _, _, rfl, rfl, (s5.trans s6) _ _ e3, by rw [List.length_map, List.length_map, List.length_range]; exact lt_line (by omega), ?_⟩⟩
      · obtain ⟨r, hr2, rfl⟩ := List.mem_map.mp hc
        show (r.getD i 0).natAbs < _
        rw [List.getD_eq_getElem?_getD]
        cases e : r[i]? with
        | none => decide
        | some c => exact (hrow r hr2).2 c (List.mem_of_getElem? e)
      · refine ⟨some (.int (0 + (i : Int))), rfl, same_upd ((s3.trans s5).trans s6) nL, ?_⟩
        rw [upd_same, List.range_succ, List.map_append, List.map_append]
        rfl
    · rintro σ H3 ⟨x6, rfl, s3, e3⟩
      rw [Int.toNat_natCast] at e3
      refine ⟨.ref L, rfl, L, _, rfl, e3, by rw [List.length_map, List.length_range]; omega, fun v H4 s4 r4 => ?_⟩
      obtain ⟨pv', rfl, ev⟩ := r4
      refine ⟨.ref pv', rfl, sz (by decide), fun t nt => ?_⟩
      have s5 := same_new (o := .tup []) nt
      refine ⟨pv', t, _, [], rfl, rfl, SqT.of (s5 _ _ ev), SqT.of upd_same, rfl, _, rfl, ?_⟩
      rw [if_pos rfl]
      have ev5 := s5 _ _ ev
      generalize upd H4 t (.tup []) = H5 at s5 ev5 ⊢
      have sB := (s3.trans s4).trans s5
      unfold lawY at q
      by_cases hz : trimI ((List.range (lng p)).map fun k => T n m (colf p k)) = []
      · rw [hz]
        rw [if_pos hz] at q
        exact iteF ⟨sz (by decide), fun z nz => q _ _ (sB.trans (same_new nz)) ⟨z, [], rfl, upd_same, K44R.RoA.nil _⟩⟩
      · rw [if_neg hz] at q
        have : (!((trimI ((List.range (lng p)).map fun k => T n m (colf p k))).map V.int).isEmpty) = true := by
          cases h : trimI ((List.range (lng p)).map fun k => T n m (colf p k)) with
          | nil => exact absurd h hz
          | cons _ _ => rfl
        rw [this]
        refine iteT ⟨.ref pv', rfl, sz (by simp), fun z nz => q _ _ (sB.trans (same_new nz)) ⟨z, [.ref pv'], rfl, upd_same, ?_⟩⟩
        exact K44R.RoA.snoc (xs := []) (rs := []) (K44R.RoA.nil _) ⟨pv', rfl, same_new nz _ _ ev5⟩
end
end K44

set_option Elab.async false
set_option linter.all false
set_option maxRecDepth 100000
set_option maxHeartbeats 8000000
local macro_rules | `(tactic| walk_at "rd") => `(tactic| dsimp only [Evl.tCut, L2.tSeq, L2.tNext, L2.tRet, L2.tRetN, L2.tAsg, L2.gName, L2.tIfS, L2.tDrop, L2.tCons, L2.tNil, L2.tC, L2.tVar, L2.tCB, L2.tAndV, L2.tOrV, L2.tNotV, L2.tB, L2.tTest, L2.tOp, L2.tUn, L2.tNot, L2.tAnd, L2.tOr, L2.tIf, L2.tCall, L2.tTup, L2.tLst, L2.tNotT, L2.tYes, L2.gTup, L2.gCons, L2.gNil, L2.gSub, L2.tBM0, L2.tBM, L2.tWhile, L2.tFor, L2.iRng1, L2.iRng2, L2.tAugS, Tw.iEnumT, L2.tCKw, L2.tAug, L2.ipI, RT.iRevA, L2.tPar, L2.tPar3, L2.tSl, L2.tNoPart, L2.tPart, Tw.tRevT, Tw.tFput])
namespace K44
open PySem PySem.Spec PyProof.Rows L2 Tw
open K44R (polyD okP okR exch lng T numAt nums co g rw' trimI trimP col Ro RoA Po Pr Bd RelA Stable stable_ro stable_eq lc_relT lc_relL wipeJ Kt kt_upd max_lng RoA.kt Kt.of RelA.eq_map lng_bd)
theorem pureA_of : ∀ {ds : List PyData}, (∀ d ∈ ds, pureT d = true) → pureA ds = true
  | [], _ => by simp [pureA]
  | d :: ds, h => by rw [pureA, h d (by simp), pureA_of fun e m => h e (by simp [m])]; rfl
/-- [f(d) for d in a tuple of data], the answers in memory -/
theorem lc_mapD {K : PySem.W.Frag} {a : Addr} {wi : TI} {j : Nat} {te : TE} {vs : List Nat} {σ : L2.St} {H : Hp} {Q : VK} {ds : List PyData} (f : PyData → PyData) (wa : We a H)
    (hi : ∀ R : It → Hp → Prop, (∀ p xs H1, Same H H1 → H1 p = some (.tup xs) → DaAll a H1 xs ds → R (Itt K p) H1) → wi σ H R)
    (hl : ds.length < 100000) (hw : ∀ x, wipe ((wipe σ vs).set j (some x)) vs = wipe σ vs) (hp : ∀ d ∈ ds, pureT (f d) = true)
    (he : ∀ x d H1, d ∈ ds → Same H H1 → Da a H1 x d → ∀ R : VK, (∀ y H2, Same H1 H2 → Da a H2 y (f d) → R y H2) → te ((wipe σ vs).set j (some x)) H1 R)
    (q : ∀ D H', Same H H' → Da a H' (.ref D) (.list (ds.map f)) → Q (.ref D) H') : tLc wi (gName j) tYes te vs σ H Q := by
  refine hi _ fun p xs H0 s0 hpp hx D hD => ?_
  refine lc_tup (xs := xs) (fun m H' => Same H0 H' ∧ ∃ zs, H' D = some (.lst zs) ∧ DaAll a H' zs ((ds.take m).map f)) ⟨same_new hD, [], upd_same, .nil⟩ (fun m H' _ h => SqT.of (h.1 _ _ hpp)) (fun m x H1 hxm h => ?_) (fun H' h => ?_)
  · obtain ⟨h1, zs, h2, h3⟩ := h
    obtain ⟨d, e1, e2⟩ := hx.get hxm
    have hm : m < xs.length := (List.getElem?_eq_some_iff.mp hxm).1
    have hxl := hx.len
    have hmd := List.mem_of_getElem? e1
    refine ⟨hw x, ?_⟩
    unfold tYes
    simp only [if_true]
    refine he x d H1 hmd (s0.trans h1) (e2.same h1) _ fun y H2 s2 dy => ⟨zs, s2 _ _ h2, ?_, same_upd (h1.trans s2) hD, zs ++ [y], upd_same, ?_⟩
    · rw [h3.len, List.length_map, List.length_take]; exact lt_line (by omega)
    · have e2' := s2 _ _ h2
      rw [← Tw.take_map f e1]
      refine das_pure (H := H2) (fun b ws nb hb => ?_) ((h3.same s2).append (.cons dy .nil)) ?_
      · rw [upd_ne (fun z => by rw [z, e2'] at hb; cases hb)]; exact hb
      · exact pureA_of fun e he => by
          rcases List.mem_append.mp he with he | he
          · obtain ⟨d', hd', rfl⟩ := List.mem_map.mp he
            exact hp d' (List.mem_of_mem_take hd')
          · rw [List.mem_singleton.mp he]; exact hp d hmd
  · obtain ⟨h1, zs, h2, h3⟩ := h
    rw [hx.len, List.take_length] at h3
    exact q D H' (s0.trans h1) (.lst (new_ne (same_some s0 wa.some) hD) h2 h3)
def exF (d : PyData) : PyData := match say d with
  | some s => s.ex.d
  | none => .none
theorem ex_f {s : Say} (h : s.ok) : exF s.d = s.ex.d := by unfold exF; rw [say_d h]
def putF (x : Bool) (n m : Int) (d : PyData) : PyData := match say d with
  | some s => (s.put x n m).d
  | none => .none
theorem put_f {x : Bool} {n m : Int} {s : Say} (h : s.ok) : putF x n m s.d = (s.put x n m).d := by unfold putF; rw [say_d h]
def spSwap (N : Nat) : Sp := spSEx N
section
variable {P : Program} {w : World} {K : PySem.W.Frag} {mg : Str → Option Value} {base : Heap}
theorem scSwapped : FnScope ["_law_said", "_law_each"] ["_law_said"] (defScope sSwapped) := ⟨rfl, rfl, rfl, by decide +kernel, rfl, by decide +kernel, by decide +kernel⟩
theorem swap_step {N : Nat} (D : Def K mg "_law_swapped" sSwapped ["_law_said"]) (nb : Nb mg) (cT : Cal P w K mg base "_law_turned" 2 ["_law_poly_here"] spTurned) (c : Cal P w K mg base "_law_swapped" (N + 3) ["_law_said"] (spSwap N)) : Cal P w K mg base "_law_swapped" (N + 4) ["_law_said"] (spSwap (N + 1)) := by
  refine D.ok scSwapped (fun vs H Q E h => ?_) (fun f cdv A out s H vs Q E hr h => ?_)
  · obtain ⟨a, v, t, rfl, _⟩ := h; rfl
  obtain ⟨a, v, t, rfl, hw, hd, ho, hN, q⟩ := h
  refine ⟨_, (pss_cons (ps_if (pt_cmpR op_eq (pe_callB (id := "len") (r := rLn K) call_len_seq (by rfl) nb.len PySem.boot_len (pa_cons (pv 0) pa_nil)) pe_int (nomark _)) (pss_one (ps_ret (pv 0))) pss_nil)
    (pss_cons (ps_if (pt_cmpR op_in_seq (pe_ix (r := rIxT K) ix_tup (pv 0) pe_int (fun _ _ => rfl)) (pe_tup (pa_cons pe_str (pa_cons pe_str (pa_cons pe_str pa_nil)))) (by rfl)) (pss_one (ps_ret (pe_op op_catA (pe_tup (pa_cons (pe_ix (r := rIxT K) ix_tup (pv 0) pe_int (fun _ _ => rfl)) pa_nil)) (pe_callTy (T := "tuple") call_tuple_of (by rfl) nb.tup (by decide +kernel) (pa_cons (pe_lc (own := [("_law_each", 1)]) (g := gName 1) (tt := tYes) rfl scSwapped.nd (pi_tup (pe_slice sl_tupA (pv 0) (po_some pe_int) po_none)) (blkOk_by (N := ["_law_said", "_law_each"]) (sc := defScope sSwapped) (by decide +kernel)) (fun _ _ _ _ _ => pg_name (i := 1) scSwapped.nd rfl (Or.inl rfl)) (fun _ _ _ _ _ => pts_nil) (fun _ _ _ _ _ => (pe_cal c hr (by omega) (by rfl) (pa_cons (pv 1) pa_nil)))) pa_nil))))) pss_nil)
    (pss_cons (ps_if (pt_cmpR op_eq (pe_callB (id := "len") (r := rLn K) call_len_seq (by rfl) nb.len PySem.boot_len (pa_cons (pv 0) pa_nil)) pe_int (nomark _)) (pss_one (ps_ret (pe_tup (pa_cons (pe_ix (r := rIxT K) ix_tup (pv 0) pe_int (fun _ _ => rfl)) (pa_cons (pe_ifExp (pt_cmpR op_eq (pe_ix (r := rIxT K) ix_tup (pv 0) pe_int (fun _ _ => rfl)) pe_str (nomark _)) pe_str pe_str) (pa_cons (pe_cal c hr (by omega) (by rfl) (pa_cons (pe_ix (r := rIxT K) ix_tup (pv 0) pe_int (fun _ _ => rfl)) pa_nil)) pa_nil)))))) pss_nil)
    (pss_one (ps_ret (pe_tup (pa_cons (pe_ix (r := rIxT K) ix_tup (pv 0) pe_int (fun _ _ => rfl)) (pa_cons (pe_cal cT hr (by omega) (by rfl) (pa_cons (pe_ix (r := rIxT K) ix_tup (pv 0) pe_int (fun _ _ => rfl)) pa_nil)) pa_nil)))))))), ?_⟩
  walk_at "rd"
  cases t with
  | tt =>
    obtain ⟨p, xs, rfl, np, hp, hx⟩ := da_tup hd
    refine ⟨.ref p, rfl, p, xs, rfl, .inr (SqT.of hp), rfl, _, rfl, ?_⟩
    rw [hx.len]
    refine ite2 (fun z => ⟨.ref p, rfl, q _ H (Same.refl _) hd⟩) (fun z => absurd (decide_eq_true rfl) z)
  | ff =>
    obtain ⟨p, xs, rfl, np, hp, hx⟩ := da_tup hd
    refine ⟨.ref p, rfl, p, xs, rfl, .inr (SqT.of hp), rfl, _, rfl, ?_⟩
    rw [hx.len]
    refine ite2 (fun z => ⟨.ref p, rfl, q _ H (Same.refl _) hd⟩) (fun z => absurd (decide_eq_true rfl) z)
  | nn u =>
    rw [depth_nn] at hN
    obtain ⟨p, xs, rfl, np, hp, hx⟩ := da_tup hd
    refine ⟨.ref p, rfl, p, xs, rfl, .inr (SqT.of hp), rfl, _, rfl, ?_⟩
    rw [hx.len]
    refine ite2 (fun z => absurd (veq z) (by simp)) (fun _ => ?_)
    refine ⟨.ref p, rfl, ix_at (n := 0) hd rfl fun y hy => ?_⟩
    cases hy
    refine in_new (l := ["not", "both", "either"]) rfl (by decide) fun H2 s2 => iteT ?_
    have hps : ∀ r ∈ ([u] : List Say), r.ok ∧ r.depth ≤ N := fun r hr => by rw [List.mem_singleton.mp hr]; exact ⟨ho, by omega⟩
    refine ⟨.ref p, rfl, ix_at (n := 0) (hd.same s2) rfl fun y hy => ?_⟩
    cases hy
    refine ⟨sz (by simp), fun pw npw => ?_⟩
    try simp only [if_true, Bool.false_eq_true, if_false]
    obtain ⟨s3, d3⟩ := newT (hw.to s2).some (DaAll.cons (.str "not") .nil) npw
    generalize upd H2 pw _ = H3 at s3 d3 ⊢
    have s3 := s2.trans s3
    refine lc_mapD (K := K) (a := a) (ds := ([u] : List Say).map Say.d) (exF) (hw.to s3) (fun R hR => ⟨.ref p, rfl, 1, rfl, ?_⟩) (by simp) (wipe1 _ 1) (fun d hm => ?_) (fun y d H5 hm s5 dy R hR => ?_) fun L H5 s5 d5 => ?_
    · walk_at "rd"
      refine sl_da (hw.to s3).some (hd.same s3) fun v4 H4 s4 hd4 => ?_
      rw [cut1] at hd4
      obtain ⟨p1, xs1, rfl, np1, hp1, hx1⟩ := da_tup hd4
      exact ⟨p1, rfl, ⟨_, SqT.of hp1⟩, hR p1 xs1 H4 s4 hp1 hx1⟩
    · obtain ⟨r, hr2, rfl⟩ := List.mem_map.mp hm
      rw [ex_f (hps r hr2).1]; exact say_pure (ex_ok (hps r hr2).1)
    · obtain ⟨r, hr2, rfl⟩ := List.mem_map.mp hm
      obtain ⟨o1, o2⟩ := hps r hr2
      exact ⟨y, rfl, a, y, r, rfl, (hw.to s3).to s5, dy, o1, o2, fun v1 H6 s6 d6 => hR v1 H6 s6 (by rw [ex_f o1]; exact d6)⟩
    · obtain ⟨pL, zs, eL, nL, hL, hz⟩ := da_lst d5
      cases eL
      refine ⟨L, zs, rfl, .inl ⟨SqL.of hL, fun z nz => ?_⟩⟩
      obtain ⟨s6, d6⟩ := newT ((hw.to s3).to s5).some hz nz
      refine cat_da (((hw.to s3).to s5).to s6).some ((d3.same s5).same s6) d6 (by simp) fun v' H8 s8 d8 => q v' H8 (((s3.trans s5).trans s6).trans s8) ?_
      have e : ([u].map Say.d).map exF = [u.ex.d] := by simp only [List.map_cons, List.map_nil]; rw [ex_f (s := u) ho]
      rw [e] at d8
      exact d8
  | bo b u u2 =>
    rw [depth_bo] at hN
    cases b with
    | true =>
      obtain ⟨p, xs, rfl, np, hp, hx⟩ := da_tup hd
      refine ⟨.ref p, rfl, p, xs, rfl, .inr (SqT.of hp), rfl, _, rfl, ?_⟩
      rw [hx.len]
      refine ite2 (fun z => absurd (veq z) (by simp)) (fun _ => ?_)
      refine ⟨.ref p, rfl, ix_at (n := 0) hd rfl fun y hy => ?_⟩
      cases hy
      refine in_new (l := ["not", "both", "either"]) rfl (by decide) fun H2 s2 => iteT ?_
      have hps : ∀ r ∈ ([u, u2] : List Say), r.ok ∧ r.depth ≤ N := fun r hr => by rcases List.mem_cons.mp hr with rfl | hr; exact ⟨ho.1, by omega⟩; rw [List.mem_singleton.mp hr]; exact ⟨ho.2, by omega⟩
      refine ⟨.ref p, rfl, ix_at (n := 0) (hd.same s2) rfl fun y hy => ?_⟩
      cases hy
      refine ⟨sz (by simp), fun pw npw => ?_⟩
      try simp only [if_true, Bool.false_eq_true, if_false]
      obtain ⟨s3, d3⟩ := newT (hw.to s2).some (DaAll.cons (.str "both") .nil) npw
      generalize upd H2 pw _ = H3 at s3 d3 ⊢
      have s3 := s2.trans s3
      refine lc_mapD (K := K) (a := a) (ds := ([u, u2] : List Say).map Say.d) (exF) (hw.to s3) (fun R hR => ⟨.ref p, rfl, 1, rfl, ?_⟩) (by simp) (wipe1 _ 1) (fun d hm => ?_) (fun y d H5 hm s5 dy R hR => ?_) fun L H5 s5 d5 => ?_
      · walk_at "rd"
        refine sl_da (hw.to s3).some (hd.same s3) fun v4 H4 s4 hd4 => ?_
        rw [cut1] at hd4
        obtain ⟨p1, xs1, rfl, np1, hp1, hx1⟩ := da_tup hd4
        exact ⟨p1, rfl, ⟨_, SqT.of hp1⟩, hR p1 xs1 H4 s4 hp1 hx1⟩
      · obtain ⟨r, hr2, rfl⟩ := List.mem_map.mp hm
        rw [ex_f (hps r hr2).1]; exact say_pure (ex_ok (hps r hr2).1)
      · obtain ⟨r, hr2, rfl⟩ := List.mem_map.mp hm
        obtain ⟨o1, o2⟩ := hps r hr2
        exact ⟨y, rfl, a, y, r, rfl, (hw.to s3).to s5, dy, o1, o2, fun v1 H6 s6 d6 => hR v1 H6 s6 (by rw [ex_f o1]; exact d6)⟩
      · obtain ⟨pL, zs, eL, nL, hL, hz⟩ := da_lst d5
        cases eL
        refine ⟨L, zs, rfl, .inl ⟨SqL.of hL, fun z nz => ?_⟩⟩
        obtain ⟨s6, d6⟩ := newT ((hw.to s3).to s5).some hz nz
        refine cat_da (((hw.to s3).to s5).to s6).some ((d3.same s5).same s6) d6 (by simp) fun v' H8 s8 d8 => q v' H8 (((s3.trans s5).trans s6).trans s8) ?_
        have e : ([u, u2].map Say.d).map exF = [u.ex.d, u2.ex.d] := by simp only [List.map_cons, List.map_nil]; rw [ex_f (s := u) ho.1, ex_f (s := u2) ho.2]
        rw [e] at d8
        exact d8
    | false =>
      obtain ⟨p, xs, rfl, np, hp, hx⟩ := da_tup hd
      refine ⟨.ref p, rfl, p, xs, rfl, .inr (SqT.of hp), rfl, _, rfl, ?_⟩
      rw [hx.len]
      refine ite2 (fun z => absurd (veq z) (by simp)) (fun _ => ?_)
      refine ⟨.ref p, rfl, ix_at (n := 0) hd rfl fun y hy => ?_⟩
      cases hy
      refine in_new (l := ["not", "both", "either"]) rfl (by decide) fun H2 s2 => iteT ?_
      have hps : ∀ r ∈ ([u, u2] : List Say), r.ok ∧ r.depth ≤ N := fun r hr => by rcases List.mem_cons.mp hr with rfl | hr; exact ⟨ho.1, by omega⟩; rw [List.mem_singleton.mp hr]; exact ⟨ho.2, by omega⟩
      refine ⟨.ref p, rfl, ix_at (n := 0) (hd.same s2) rfl fun y hy => ?_⟩
      cases hy
      refine ⟨sz (by simp), fun pw npw => ?_⟩
      try simp only [if_true, Bool.false_eq_true, if_false]
      obtain ⟨s3, d3⟩ := newT (hw.to s2).some (DaAll.cons (.str "either") .nil) npw
      generalize upd H2 pw _ = H3 at s3 d3 ⊢
      have s3 := s2.trans s3
      refine lc_mapD (K := K) (a := a) (ds := ([u, u2] : List Say).map Say.d) (exF) (hw.to s3) (fun R hR => ⟨.ref p, rfl, 1, rfl, ?_⟩) (by simp) (wipe1 _ 1) (fun d hm => ?_) (fun y d H5 hm s5 dy R hR => ?_) fun L H5 s5 d5 => ?_
      · walk_at "rd"
        refine sl_da (hw.to s3).some (hd.same s3) fun v4 H4 s4 hd4 => ?_
        rw [cut1] at hd4
        obtain ⟨p1, xs1, rfl, np1, hp1, hx1⟩ := da_tup hd4
        exact ⟨p1, rfl, ⟨_, SqT.of hp1⟩, hR p1 xs1 H4 s4 hp1 hx1⟩
      · obtain ⟨r, hr2, rfl⟩ := List.mem_map.mp hm
        rw [ex_f (hps r hr2).1]; exact say_pure (ex_ok (hps r hr2).1)
      · obtain ⟨r, hr2, rfl⟩ := List.mem_map.mp hm
        obtain ⟨o1, o2⟩ := hps r hr2
        exact ⟨y, rfl, a, y, r, rfl, (hw.to s3).to s5, dy, o1, o2, fun v1 H6 s6 d6 => hR v1 H6 s6 (by rw [ex_f o1]; exact d6)⟩
      · obtain ⟨pL, zs, eL, nL, hL, hz⟩ := da_lst d5
        cases eL
        refine ⟨L, zs, rfl, .inl ⟨SqL.of hL, fun z nz => ?_⟩⟩
        obtain ⟨s6, d6⟩ := newT ((hw.to s3).to s5).some hz nz
        refine cat_da (((hw.to s3).to s5).to s6).some ((d3.same s5).same s6) d6 (by simp) fun v' H8 s8 d8 => q v' H8 (((s3.trans s5).trans s6).trans s8) ?_
        have e : ([u, u2].map Say.d).map exF = [u.ex.d, u2.ex.d] := by simp only [List.map_cons, List.map_nil]; rw [ex_f (s := u) ho.1, ex_f (s := u2) ho.2]
        rw [e] at d8
        exact d8
  | qu al x1 u =>
    rw [depth_qu] at hN
    cases al with
    | true =>
      obtain ⟨p, xs, rfl, np, hp, hx⟩ := da_tup hd
      refine ⟨.ref p, rfl, p, xs, rfl, .inr (SqT.of hp), rfl, _, rfl, ?_⟩
      rw [hx.len]
      refine ite2 (fun z => absurd (veq z) (by simp)) (fun _ => ?_)
      refine ⟨.ref p, rfl, ix_at (n := 0) hd rfl fun y hy => ?_⟩
      cases hy
      refine in_new (l := ["not", "both", "either"]) rfl (by decide) fun H2 s2 => iteF ?_
      refine ⟨.ref p, rfl, p, xs, rfl, .inr (SqT.of (s2 _ _ hp)), rfl, _, rfl, ?_⟩
      rw [hx.len]
      refine ite2 (fun _ => ?_) (fun z => absurd (decide_eq_true rfl) z)
      refine ⟨.ref p, rfl, ix_at (n := 0) (hd.same s2) rfl fun y hy => ?_⟩
      cases hy
      refine ⟨.ref p, rfl, ix_at (n := 1) (hd.same s2) rfl fun y hy => ?_⟩
      cases hy
      refine ⟨rfl, _, rfl, ?_⟩
      have fin : ∀ l : Str, l = (if !x1 then ("x" : Str) else "y") → ∃ v', some (some (V.ref p)) = some (some v') ∧ rIxT K v' (.int 2) H2 fun x2 H3 => spSwap N [x2] H3 (fun y H4 => [V.str "all", V.str l, y].length ≤ sizeLine ∧ ∀ z, H4 z = none → Q (.ref z) (upd H4 z (.tup [V.str "all", V.str l, y]))) E0 := fun l hl => ⟨.ref p, rfl, ix_at (n := 2) (hd.same s2) rfl fun y hy => ⟨a, y, u, rfl, hw.to s2, hy, ho, by omega, fun v1 H3 s3 d1 => ⟨sz (by simp), fun z nz => by
        obtain ⟨s4, d4⟩ := newT ((hw.to s2).to s3).some (DaAll.cons (.str "all") (.cons (.str l) (.cons d1 .nil))) nz
        subst hl
        exact q _ _ ((s2.trans s3).trans s4) d4⟩⟩⟩
      cases x1 with
      | true => exact iteT (fin "y" rfl)
      | false => exact iteF (fin "x" rfl)
    | false =>
      obtain ⟨p, xs, rfl, np, hp, hx⟩ := da_tup hd
      refine ⟨.ref p, rfl, p, xs, rfl, .inr (SqT.of hp), rfl, _, rfl, ?_⟩
      rw [hx.len]
      refine ite2 (fun z => absurd (veq z) (by simp)) (fun _ => ?_)
      refine ⟨.ref p, rfl, ix_at (n := 0) hd rfl fun y hy => ?_⟩
      cases hy
      refine in_new (l := ["not", "both", "either"]) rfl (by decide) fun H2 s2 => iteF ?_
      refine ⟨.ref p, rfl, p, xs, rfl, .inr (SqT.of (s2 _ _ hp)), rfl, _, rfl, ?_⟩
      rw [hx.len]
      refine ite2 (fun _ => ?_) (fun z => absurd (decide_eq_true rfl) z)
      refine ⟨.ref p, rfl, ix_at (n := 0) (hd.same s2) rfl fun y hy => ?_⟩
      cases hy
      refine ⟨.ref p, rfl, ix_at (n := 1) (hd.same s2) rfl fun y hy => ?_⟩
      cases hy
      refine ⟨rfl, _, rfl, ?_⟩
      have fin : ∀ l : Str, l = (if !x1 then ("x" : Str) else "y") → ∃ v', some (some (V.ref p)) = some (some v') ∧ rIxT K v' (.int 2) H2 fun x2 H3 => spSwap N [x2] H3 (fun y H4 => [V.str "some", V.str l, y].length ≤ sizeLine ∧ ∀ z, H4 z = none → Q (.ref z) (upd H4 z (.tup [V.str "some", V.str l, y]))) E0 := fun l hl => ⟨.ref p, rfl, ix_at (n := 2) (hd.same s2) rfl fun y hy => ⟨a, y, u, rfl, hw.to s2, hy, ho, by omega, fun v1 H3 s3 d1 => ⟨sz (by simp), fun z nz => by
        obtain ⟨s4, d4⟩ := newT ((hw.to s2).to s3).some (DaAll.cons (.str "some") (.cons (.str l) (.cons d1 .nil))) nz
        subst hl
        exact q _ _ ((s2.trans s3).trans s4) d4⟩⟩⟩
      cases x1 with
      | true => exact iteT (fin "y" rfl)
      | false => exact iteF (fin "x" rfl)
  | re wd pl =>
    obtain ⟨g1, g2, g3, g4⟩ := small_un ho.2
    obtain ⟨p, xs, rfl, np, hp, hx⟩ := da_tup hd
    refine ⟨.ref p, rfl, p, xs, rfl, .inr (SqT.of hp), rfl, _, rfl, ?_⟩
    rw [hx.len]
    refine ite2 (fun z => absurd (veq z) (by simp)) (fun _ => ?_)
    refine ⟨.ref p, rfl, ix_at (n := 0) hd rfl fun y hy => ?_⟩
    cases hy
    refine in_new (l := ["not", "both", "either"]) rfl (by decide) fun H2 s2 => ?_
    rw [rel_word ho.1 _ (by decide)]
    refine iteF ⟨.ref p, rfl, p, xs, rfl, .inr (SqT.of (s2 _ _ hp)), rfl, _, rfl, ?_⟩
    rw [hx.len]
    refine ite2 (fun z => absurd (veq z) (by simp)) (fun _ => ?_)
    refine ⟨.ref p, rfl, ix_at (n := 0) (hd.same s2) rfl fun y hy => ?_⟩
    cases hy
    refine ⟨.ref p, rfl, ix_at (n := 1) (hd.same s2) rfl fun y hy => ?_⟩
    obtain ⟨b, hb⟩ := bd_any g3 g4
    have hy : Da a H2 y (polyD (unD pl)) := g1 ▸ hy
    refine ⟨y, unD pl, b, rfl, po_of hy, g2, ⟨by omega, fun r hr => ⟨by have := g4 r hr; omega, (hb.2 r hr).2⟩⟩, fun v1 H3 s3 p3 => ⟨sz (by simp), fun z nz => ?_⟩⟩
    have w3 := (hw.to s2).to s3
    obtain ⟨s4, d4⟩ := newT w3.some (DaAll.cons (.str wd) (.cons (K44R.da_poly w3 p3) .nil)) nz
    exact q _ _ ((s2.trans s3).trans s4) d4
theorem swap_all (D : Def K mg "_law_swapped" sSwapped ["_law_said"]) (nb : Nb mg) (cT : Cal P w K mg base "_law_turned" 2 ["_law_poly_here"] spTurned) : ∀ N : Nat, Cal P w K mg base "_law_swapped" (N + 3) ["_law_said"] (spSwap N)
  | 0 => by
    have no : ∀ vs H Q E, ¬ spSwap 0 vs H Q E := fun vs H Q E h => by
      obtain ⟨a, v, s, _, _, _, _, h1, _⟩ := h
      have := s.depth_pos
      omega
    obtain ⟨f, fd, F, m, b⟩ := D
    exact ⟨f, fd, ⟨fun vs H Q E h => absurd h (no vs H Q E), fun A out s H g us vs Q E _ _ _ _ h => absurd h (no vs H Q E)⟩, m, F.kp, b, fdAt F⟩
  | N + 1 => swap_step D nb cT (swap_all D nb cT N)
end
end K44

set_option Elab.async false
set_option linter.all false
set_option maxRecDepth 100000
set_option maxHeartbeats 8000000
local macro_rules | `(tactic| walk_at "rd") => `(tactic| dsimp only [Evl.tCut, L2.tSeq, L2.tNext, L2.tRet, L2.tRetN, L2.tAsg, L2.gName, L2.tIfS, L2.tDrop, L2.tCons, L2.tNil, L2.tC, L2.tVar, L2.tCB, L2.tAndV, L2.tOrV, L2.tNotV, L2.tB, L2.tTest, L2.tOp, L2.tUn, L2.tNot, L2.tAnd, L2.tOr, L2.tIf, L2.tCall, L2.tTup, L2.tLst, L2.tNotT, L2.tYes, L2.gTup, L2.gCons, L2.gNil, L2.gSub, L2.tBM0, L2.tBM, L2.tWhile, L2.tFor, L2.iRng1, L2.iRng2, L2.tAugS, Tw.iEnumT, L2.tCKw, L2.tAug, L2.ipI, RT.iRevA, L2.tPar, L2.tPar3, L2.tSl, L2.tNoPart, L2.tPart, Tw.tRevT, Tw.tFput])
namespace K44
open PySem PySem.Spec PyProof.Rows L2 Tw
open K44R (polyD okP okR exch lng T numAt nums co g rw' trimI trimP col Ro RoA Po Pr Bd RelA Stable stable_ro stable_eq lc_relT lc_relL wipeJ Kt kt_upd max_lng RoA.kt Kt.of RelA.eq_map lng_bd)
section
variable {P : Program} {w : World} {K : PySem.W.Frag} {mg : Str → Option Value} {base : Heap}
theorem scFilled : FnScope ["_law_said", "_law_letter", "_law_spot", "_law_each"] ["_law_said", "_law_letter", "_law_spot"] (defScope sFilled) := ⟨rfl, rfl, rfl, by decide +kernel, rfl, by decide +kernel, by decide +kernel⟩
theorem fill_step {N : Nat} (D : Def K mg "_law_filled" sFilled ["_law_said", "_law_letter", "_law_spot"]) (nb : Nb mg) (cP : Cal P w K mg base "_law_put" 2 ["_law_poly_here", "_law_letter", "_law_spot"] spLPut) (c : Cal P w K mg base "_law_filled" (N + 3) ["_law_said", "_law_letter", "_law_spot"] (spSPut N)) : Cal P w K mg base "_law_filled" (N + 4) ["_law_said", "_law_letter", "_law_spot"] (spSPut (N + 1)) := by
  refine D.ok scFilled (fun vs H Q E h => ?_) (fun f cdv A out s H vs Q E hr h => ?_)
  · obtain ⟨a, v, fr, t, x, n, m, rfl, _⟩ := h; rfl
  obtain ⟨a, v, fr, t, x, n, m, rfl, hw, hd, ho, hN, hlf, hf, hn, m0, m1, q⟩ := h
  refine ⟨_, (pss_cons (ps_if (pt_cmpR op_eq (pe_callB (id := "len") (r := rLn K) call_len_seq (by rfl) nb.len PySem.boot_len (pa_cons (pv 0) pa_nil)) pe_int (nomark _)) (pss_one (ps_ret (pv 0))) pss_nil)
    (pss_cons (ps_if (pt_cmpR op_in_seq (pe_ix (r := rIxT K) ix_tup (pv 0) pe_int (fun _ _ => rfl)) (pe_tup (pa_cons pe_str (pa_cons pe_str (pa_cons pe_str pa_nil)))) (by rfl)) (pss_one (ps_ret (pe_op op_catA (pe_tup (pa_cons (pe_ix (r := rIxT K) ix_tup (pv 0) pe_int (fun _ _ => rfl)) pa_nil)) (pe_callTy (T := "tuple") call_tuple_of (by rfl) nb.tup (by decide +kernel) (pa_cons (pe_lc (own := [("_law_each", 3)]) (g := gName 3) (tt := tYes) rfl scFilled.nd (pi_tup (pe_slice sl_tupA (pv 0) (po_some pe_int) po_none)) (blkOk_by (N := ["_law_said", "_law_letter", "_law_spot", "_law_each"]) (sc := defScope sFilled) (by decide +kernel)) (fun _ _ _ _ _ => pg_name (i := 3) scFilled.nd rfl (Or.inl rfl)) (fun _ _ _ _ _ => pts_nil) (fun _ _ _ _ _ => (pe_cal c hr (by omega) (by rfl) (pa_cons (pv 3) (pa_cons (pv 1) (pa_cons (pv 2) pa_nil)))))) pa_nil))))) pss_nil)
    (pss_cons (ps_if (pt_cmpR op_in_seq (pe_ix (r := rIxT K) ix_tup (pv 0) pe_int (fun _ _ => rfl)) (pe_tup (pa_cons pe_str (pa_cons pe_str pa_nil))) (by rfl)) (pss_one (ps_ret (pe_ifExp (pt_cmpR op_eq (pe_ix (r := rIxT K) ix_tup (pv 0) pe_int (fun _ _ => rfl)) (pv 1) (nomark _)) (pv 0) (pe_op op_catA (pe_slice sl_tupA (pv 0) po_none (po_some pe_int)) (pe_tup (pa_cons (pe_cal c hr (by omega) (by rfl) (pa_cons (pe_ix (r := rIxT K) ix_tup (pv 0) pe_int (fun _ _ => rfl)) (pa_cons (pv 1) (pa_cons (pv 2) pa_nil)))) pa_nil)))))) pss_nil)
    (pss_one (ps_ret (pe_tup (pa_cons (pe_ix (r := rIxT K) ix_tup (pv 0) pe_int (fun _ _ => rfl)) (pa_cons (pe_cal cP hr (by omega) (by rfl) (pa_cons (pe_ix (r := rIxT K) ix_tup (pv 0) pe_int (fun _ _ => rfl)) (pa_cons (pv 1) (pa_cons (pv 2) pa_nil)))) pa_nil)))))))), ?_⟩
  walk_at "rd"
  cases t with
  | tt =>
    obtain ⟨p, xs, rfl, np, hp, hx⟩ := da_tup hd
    refine ⟨.ref p, rfl, p, xs, rfl, .inr (SqT.of hp), rfl, _, rfl, ?_⟩
    rw [hx.len]
    refine ite2 (fun z => ⟨.ref p, rfl, q _ H (Same.refl _) hd⟩) (fun z => absurd (decide_eq_true rfl) z)
  | ff =>
    obtain ⟨p, xs, rfl, np, hp, hx⟩ := da_tup hd
    refine ⟨.ref p, rfl, p, xs, rfl, .inr (SqT.of hp), rfl, _, rfl, ?_⟩
    rw [hx.len]
    refine ite2 (fun z => ⟨.ref p, rfl, q _ H (Same.refl _) hd⟩) (fun z => absurd (decide_eq_true rfl) z)
  | nn u =>
    rw [depth_nn] at hN
    obtain ⟨p, xs, rfl, np, hp, hx⟩ := da_tup hd
    refine ⟨.ref p, rfl, p, xs, rfl, .inr (SqT.of hp), rfl, _, rfl, ?_⟩
    rw [hx.len]
    refine ite2 (fun z => absurd (veq z) (by simp)) (fun _ => ?_)
    refine ⟨.ref p, rfl, ix_at (n := 0) hd rfl fun y hy => ?_⟩
    cases hy
    refine in_new (l := ["not", "both", "either"]) rfl (by decide) fun H2 s2 => iteT ?_
    have hps : ∀ r ∈ ([u] : List Say), r.ok ∧ r.depth ≤ N ∧ lf LB r.d = true := fun r hr => by rw [List.mem_singleton.mp hr]; exact ⟨ho, by omega, lf_nn hlf⟩
    refine ⟨.ref p, rfl, ix_at (n := 0) (hd.same s2) rfl fun y hy => ?_⟩
    cases hy
    refine ⟨sz (by simp), fun pw npw => ?_⟩
    try simp only [if_true, Bool.false_eq_true, if_false]
    obtain ⟨s3, d3⟩ := newT (hw.to s2).some (DaAll.cons (.str "not") .nil) npw
    generalize upd H2 pw _ = H3 at s3 d3 ⊢
    have s3 := s2.trans s3
    refine lc_mapD (K := K) (a := a) (ds := ([u] : List Say).map Say.d) (putF x n m) (hw.to s3) (fun R hR => ⟨.ref p, rfl, 1, rfl, ?_⟩) (by simp) (wipe1 _ 3) (fun d hm => ?_) (fun y d H5 hm s5 dy R hR => ?_) fun L H5 s5 d5 => ?_
    · walk_at "rd"
      refine sl_da (hw.to s3).some (hd.same s3) fun v4 H4 s4 hd4 => ?_
      rw [cut1] at hd4
      obtain ⟨p1, xs1, rfl, np1, hp1, hx1⟩ := da_tup hd4
      exact ⟨p1, rfl, ⟨_, SqT.of hp1⟩, hR p1 xs1 H4 s4 hp1 hx1⟩
    · obtain ⟨r, hr2, rfl⟩ := List.mem_map.mp hm
      rw [put_f (hps r hr2).1]; exact say_pure (put_ok (hps r hr2).1)
    · obtain ⟨r, hr2, rfl⟩ := List.mem_map.mp hm
      obtain ⟨o1, o2, o3⟩ := hps r hr2
      exact ⟨y, rfl, .str _, rfl, fr, rfl, a, y, fr, r, x, n, m, rfl, (hw.to s3).to s5, dy, o1, o2, o3, hf.kt (Kt.of (s3.trans s5)), hn, m0, m1, fun v1 H6 s6 d6 => hR v1 H6 s6 (by rw [put_f o1]; exact d6)⟩
    · obtain ⟨pL, zs, eL, nL, hL, hz⟩ := da_lst d5
      cases eL
      refine ⟨L, zs, rfl, .inl ⟨SqL.of hL, fun z nz => ?_⟩⟩
      obtain ⟨s6, d6⟩ := newT ((hw.to s3).to s5).some hz nz
      refine cat_da (((hw.to s3).to s5).to s6).some ((d3.same s5).same s6) d6 (by simp) fun v' H8 s8 d8 => q v' H8 (((s3.trans s5).trans s6).trans s8) ?_
      have e : ([u].map Say.d).map (putF x n m) = [(u.put x n m).d] := by simp only [List.map_cons, List.map_nil]; rw [put_f (s := u) ho]
      rw [e] at d8
      exact d8
  | bo b u u2 =>
    rw [depth_bo] at hN
    cases b with
    | true =>
      obtain ⟨p, xs, rfl, np, hp, hx⟩ := da_tup hd
      refine ⟨.ref p, rfl, p, xs, rfl, .inr (SqT.of hp), rfl, _, rfl, ?_⟩
      rw [hx.len]
      refine ite2 (fun z => absurd (veq z) (by simp)) (fun _ => ?_)
      refine ⟨.ref p, rfl, ix_at (n := 0) hd rfl fun y hy => ?_⟩
      cases hy
      refine in_new (l := ["not", "both", "either"]) rfl (by decide) fun H2 s2 => iteT ?_
      have hps : ∀ r ∈ ([u, u2] : List Say), r.ok ∧ r.depth ≤ N ∧ lf LB r.d = true := fun r hr => by rcases List.mem_cons.mp hr with rfl | hr; exact ⟨ho.1, by omega, (lf_bo hlf).1⟩; rw [List.mem_singleton.mp hr]; exact ⟨ho.2, by omega, (lf_bo hlf).2⟩
      refine ⟨.ref p, rfl, ix_at (n := 0) (hd.same s2) rfl fun y hy => ?_⟩
      cases hy
      refine ⟨sz (by simp), fun pw npw => ?_⟩
      try simp only [if_true, Bool.false_eq_true, if_false]
      obtain ⟨s3, d3⟩ := newT (hw.to s2).some (DaAll.cons (.str "both") .nil) npw
      generalize upd H2 pw _ = H3 at s3 d3 ⊢
      have s3 := s2.trans s3
      refine lc_mapD (K := K) (a := a) (ds := ([u, u2] : List Say).map Say.d) (putF x n m) (hw.to s3) (fun R hR => ⟨.ref p, rfl, 1, rfl, ?_⟩) (by simp) (wipe1 _ 3) (fun d hm => ?_) (fun y d H5 hm s5 dy R hR => ?_) fun L H5 s5 d5 => ?_
      · walk_at "rd"
        refine sl_da (hw.to s3).some (hd.same s3) fun v4 H4 s4 hd4 => ?_
        rw [cut1] at hd4
        obtain ⟨p1, xs1, rfl, np1, hp1, hx1⟩ := da_tup hd4
        exact ⟨p1, rfl, ⟨_, SqT.of hp1⟩, hR p1 xs1 H4 s4 hp1 hx1⟩
      · obtain ⟨r, hr2, rfl⟩ := List.mem_map.mp hm
        rw [put_f (hps r hr2).1]; exact say_pure (put_ok (hps r hr2).1)
      · obtain ⟨r, hr2, rfl⟩ := List.mem_map.mp hm
        obtain ⟨o1, o2, o3⟩ := hps r hr2
        exact ⟨y, rfl, .str _, rfl, fr, rfl, a, y, fr, r, x, n, m, rfl, (hw.to s3).to s5, dy, o1, o2, o3, hf.kt (Kt.of (s3.trans s5)), hn, m0, m1, fun v1 H6 s6 d6 => hR v1 H6 s6 (by rw [put_f o1]; exact d6)⟩
      · obtain ⟨pL, zs, eL, nL, hL, hz⟩ := da_lst d5
        cases eL
        refine ⟨L, zs, rfl, .inl ⟨SqL.of hL, fun z nz => ?_⟩⟩
        obtain ⟨s6, d6⟩ := newT ((hw.to s3).to s5).some hz nz
        refine cat_da (((hw.to s3).to s5).to s6).some ((d3.same s5).same s6) d6 (by simp) fun v' H8 s8 d8 => q v' H8 (((s3.trans s5).trans s6).trans s8) ?_
        have e : ([u, u2].map Say.d).map (putF x n m) = [(u.put x n m).d, (u2.put x n m).d] := by simp only [List.map_cons, List.map_nil]; rw [put_f (s := u) ho.1, put_f (s := u2) ho.2]
        rw [e] at d8
        exact d8
    | false =>
      obtain ⟨p, xs, rfl, np, hp, hx⟩ := da_tup hd
      refine ⟨.ref p, rfl, p, xs, rfl, .inr (SqT.of hp), rfl, _, rfl, ?_⟩
      rw [hx.len]
      refine ite2 (fun z => absurd (veq z) (by simp)) (fun _ => ?_)
      refine ⟨.ref p, rfl, ix_at (n := 0) hd rfl fun y hy => ?_⟩
      cases hy
      refine in_new (l := ["not", "both", "either"]) rfl (by decide) fun H2 s2 => iteT ?_
      have hps : ∀ r ∈ ([u, u2] : List Say), r.ok ∧ r.depth ≤ N ∧ lf LB r.d = true := fun r hr => by rcases List.mem_cons.mp hr with rfl | hr; exact ⟨ho.1, by omega, (lf_bo hlf).1⟩; rw [List.mem_singleton.mp hr]; exact ⟨ho.2, by omega, (lf_bo hlf).2⟩
      refine ⟨.ref p, rfl, ix_at (n := 0) (hd.same s2) rfl fun y hy => ?_⟩
      cases hy
      refine ⟨sz (by simp), fun pw npw => ?_⟩
      try simp only [if_true, Bool.false_eq_true, if_false]
      obtain ⟨s3, d3⟩ := newT (hw.to s2).some (DaAll.cons (.str "either") .nil) npw
      generalize upd H2 pw _ = H3 at s3 d3 ⊢
      have s3 := s2.trans s3
      refine lc_mapD (K := K) (a := a) (ds := ([u, u2] : List Say).map Say.d) (putF x n m) (hw.to s3) (fun R hR => ⟨.ref p, rfl, 1, rfl, ?_⟩) (by simp) (wipe1 _ 3) (fun d hm => ?_) (fun y d H5 hm s5 dy R hR => ?_) fun L H5 s5 d5 => ?_
      · walk_at "rd"
        refine sl_da (hw.to s3).some (hd.same s3) fun v4 H4 s4 hd4 => ?_
        rw [cut1] at hd4
        obtain ⟨p1, xs1, rfl, np1, hp1, hx1⟩ := da_tup hd4
        exact ⟨p1, rfl, ⟨_, SqT.of hp1⟩, hR p1 xs1 H4 s4 hp1 hx1⟩
      · obtain ⟨r, hr2, rfl⟩ := List.mem_map.mp hm
        rw [put_f (hps r hr2).1]; exact say_pure (put_ok (hps r hr2).1)
      · obtain ⟨r, hr2, rfl⟩ := List.mem_map.mp hm
        obtain ⟨o1, o2, o3⟩ := hps r hr2
        exact ⟨y, rfl, .str _, rfl, fr, rfl, a, y, fr, r, x, n, m, rfl, (hw.to s3).to s5, dy, o1, o2, o3, hf.kt (Kt.of (s3.trans s5)), hn, m0, m1, fun v1 H6 s6 d6 => hR v1 H6 s6 (by rw [put_f o1]; exact d6)⟩
      · obtain ⟨pL, zs, eL, nL, hL, hz⟩ := da_lst d5
        cases eL
        refine ⟨L, zs, rfl, .inl ⟨SqL.of hL, fun z nz => ?_⟩⟩
        obtain ⟨s6, d6⟩ := newT ((hw.to s3).to s5).some hz nz
        refine cat_da (((hw.to s3).to s5).to s6).some ((d3.same s5).same s6) d6 (by simp) fun v' H8 s8 d8 => q v' H8 (((s3.trans s5).trans s6).trans s8) ?_
        have e : ([u, u2].map Say.d).map (putF x n m) = [(u.put x n m).d, (u2.put x n m).d] := by simp only [List.map_cons, List.map_nil]; rw [put_f (s := u) ho.1, put_f (s := u2) ho.2]
        rw [e] at d8
        exact d8
  | qu al x1 u =>
    rw [depth_qu] at hN
    have l1 := lf_qu hlf
    have q1 : ∀ v' H', Same H H' → Da a H' v' (if x1 = x then Say.qu al x1 u else Say.qu al x1 (u.put x n m)).d → Q v' H' := q
    cases al with
    | true =>
      obtain ⟨p, xs, rfl, np, hp, hx⟩ := da_tup hd
      refine ⟨.ref p, rfl, p, xs, rfl, .inr (SqT.of hp), rfl, _, rfl, ?_⟩
      rw [hx.len]
      refine ite2 (fun z => absurd (veq z) (by simp)) (fun _ => ?_)
      refine ⟨.ref p, rfl, ix_at (n := 0) hd rfl fun y hy => ?_⟩
      cases hy
      refine in_new (l := ["not", "both", "either"]) rfl (by decide) fun H2 s2 => iteF ?_
      refine ⟨.ref p, rfl, ix_at (n := 0) (hd.same s2) rfl fun y hy => ?_⟩
      cases hy
      refine in_new (l := ["all", "some"]) rfl (by decide) fun H3 s3 => iteT ?_
      have s3 := s2.trans s3
      refine ⟨.ref p, rfl, ix_at (n := 1) (hd.same s3) rfl fun y hy => ?_⟩
      cases hy
      refine ⟨.str _, rfl, rfl, _, rfl, ?_⟩
      rw [let_eq]
      by_cases e : x1 = x
      · subst e
        rw [show (x1 == x1) = true from by simp]
        exact iteT ⟨.ref p, rfl, q1 _ H3 s3 (by rw [if_pos rfl]; exact hd.same s3)⟩
      · rw [show (x1 == x) = false from by simpa using e]
        refine iteF ⟨.ref p, rfl, 2, rfl, ?_⟩
        refine sl_da (hw.to s3).some (hd.same s3) fun v4 H4 s4 d4 => ?_
        have s4 := s3.trans s4
        refine ⟨.ref p, rfl, ix_at (n := 2) (hd.same s4) rfl fun y hy => ⟨.str _, rfl, fr, rfl, a, y, fr, u, x, n, m, rfl, hw.to s4, hy, ho, by omega, l1, hf.kt (Kt.of s4), hn, m0, m1, fun v1 H5 s5 d1 => ⟨sz (by simp), fun z nz => ?_⟩⟩⟩
        have w5 := (hw.to s4).to s5
        obtain ⟨s6, d6⟩ := newT w5.some (DaAll.cons d1 .nil) nz
        refine cat_da (w5.to s6).some ((d4.same s5).same s6) d6 (by rw [show Tw.cutD _ none (some 2) = _ from rfl]; simp [Tw.cutD]; try omega) fun v' H8 s8 d8 => q1 v' H8 (((s4.trans s5).trans s6).trans s8) ?_
        rw [if_neg e]
        exact d8
    | false =>
      obtain ⟨p, xs, rfl, np, hp, hx⟩ := da_tup hd
      refine ⟨.ref p, rfl, p, xs, rfl, .inr (SqT.of hp), rfl, _, rfl, ?_⟩
      rw [hx.len]
      refine ite2 (fun z => absurd (veq z) (by simp)) (fun _ => ?_)
      refine ⟨.ref p, rfl, ix_at (n := 0) hd rfl fun y hy => ?_⟩
      cases hy
      refine in_new (l := ["not", "both", "either"]) rfl (by decide) fun H2 s2 => iteF ?_
      refine ⟨.ref p, rfl, ix_at (n := 0) (hd.same s2) rfl fun y hy => ?_⟩
      cases hy
      refine in_new (l := ["all", "some"]) rfl (by decide) fun H3 s3 => iteT ?_
      have s3 := s2.trans s3
      refine ⟨.ref p, rfl, ix_at (n := 1) (hd.same s3) rfl fun y hy => ?_⟩
      cases hy
      refine ⟨.str _, rfl, rfl, _, rfl, ?_⟩
      rw [let_eq]
      by_cases e : x1 = x
      · subst e
        rw [show (x1 == x1) = true from by simp]
        exact iteT ⟨.ref p, rfl, q1 _ H3 s3 (by rw [if_pos rfl]; exact hd.same s3)⟩
      · rw [show (x1 == x) = false from by simpa using e]
        refine iteF ⟨.ref p, rfl, 2, rfl, ?_⟩
        refine sl_da (hw.to s3).some (hd.same s3) fun v4 H4 s4 d4 => ?_
        have s4 := s3.trans s4
        refine ⟨.ref p, rfl, ix_at (n := 2) (hd.same s4) rfl fun y hy => ⟨.str _, rfl, fr, rfl, a, y, fr, u, x, n, m, rfl, hw.to s4, hy, ho, by omega, l1, hf.kt (Kt.of s4), hn, m0, m1, fun v1 H5 s5 d1 => ⟨sz (by simp), fun z nz => ?_⟩⟩⟩
        have w5 := (hw.to s4).to s5
        obtain ⟨s6, d6⟩ := newT w5.some (DaAll.cons d1 .nil) nz
        refine cat_da (w5.to s6).some ((d4.same s5).same s6) d6 (by rw [show Tw.cutD _ none (some 2) = _ from rfl]; simp [Tw.cutD]; try omega) fun v' H8 s8 d8 => q1 v' H8 (((s4.trans s5).trans s6).trans s8) ?_
        rw [if_neg e]
        exact d8
  | re wd pl =>
    obtain ⟨g1, g2, g3, g4⟩ := small_un ho.2
    have lp := lf_poly (p := unD pl) (by rw [← g1]; exact lf_re hlf)
    obtain ⟨p, xs, rfl, np, hp, hx⟩ := da_tup hd
    refine ⟨.ref p, rfl, p, xs, rfl, .inr (SqT.of hp), rfl, _, rfl, ?_⟩
    rw [hx.len]
    refine ite2 (fun z => absurd (veq z) (by simp)) (fun _ => ?_)
    refine ⟨.ref p, rfl, ix_at (n := 0) hd rfl fun y hy => ?_⟩
    cases hy
    refine in_new (l := ["not", "both", "either"]) rfl (by decide) fun H2 s2 => ?_
    rw [rel_word ho.1 _ (by decide)]
    refine iteF ⟨.ref p, rfl, ix_at (n := 0) (hd.same s2) rfl fun y hy => ?_⟩
    cases hy
    refine in_new (l := ["all", "some"]) rfl (by decide) fun H3 s3 => ?_
    rw [rel_word ho.1 _ (by decide)]
    have s3 := s2.trans s3
    refine iteF ⟨.ref p, rfl, ix_at (n := 0) (hd.same s3) rfl fun y hy => ?_⟩
    cases hy
    refine ⟨.ref p, rfl, ix_at (n := 1) (hd.same s3) rfl fun y hy => ?_⟩
    have hy : Da a H3 y (polyD (unD pl)) := g1 ▸ hy
    refine ⟨.str _, rfl, fr, rfl, y, fr, x, unD pl, n, m, rfl, po_of hy, g2, hf.kt (Kt.of s3), g3, fun r hr => ⟨g4 r hr, fun k hk => ?_⟩, hn, m0, m1, fun v1 H4 s4 p4 => ⟨sz (by simp), fun z nz => ?_⟩⟩
    · have := lp r hr k hk
      have e : LB = 10 ^ 20 + 1000 := rfl
      omega
    · have w4 := (hw.to s3).to s4
      obtain ⟨s5, d5⟩ := newT w4.some (DaAll.cons (.str wd) (.cons (K44R.da_poly w4 p4) .nil)) nz
      exact q _ _ ((s3.trans s4).trans s5) d5
theorem fill_all (D : Def K mg "_law_filled" sFilled ["_law_said", "_law_letter", "_law_spot"]) (nb : Nb mg) (cP : Cal P w K mg base "_law_put" 2 ["_law_poly_here", "_law_letter", "_law_spot"] spLPut) : ∀ N : Nat, Cal P w K mg base "_law_filled" (N + 3) ["_law_said", "_law_letter", "_law_spot"] (spSPut N)
  | 0 => by
    have no : ∀ vs H Q E, ¬ spSPut 0 vs H Q E := fun vs H Q E h => by
      obtain ⟨a, v, f, s, x, n, m, _, _, _, _, h1, _⟩ := h
      have := s.depth_pos
      omega
    obtain ⟨f, fd, F, m, b⟩ := D
    exact ⟨f, fd, ⟨fun vs H Q E h => absurd h (no vs H Q E), fun A out s H g us vs Q E _ _ _ _ h => absurd h (no vs H Q E)⟩, m, F.kp, b, fdAt F⟩
  | N + 1 => fill_step D nb cP (fill_all D nb cP N)
end
end K44

set_option Elab.async false
set_option linter.all false
set_option maxRecDepth 100000
set_option maxHeartbeats 8000000
local macro_rules | `(tactic| walk_at "rd") => `(tactic| dsimp only [Evl.tCut, L2.tSeq, L2.tNext, L2.tRet, L2.tRetN, L2.tAsg, L2.gName, L2.tIfS, L2.tDrop, L2.tCons, L2.tNil, L2.tC, L2.tVar, L2.tCB, L2.tAndV, L2.tOrV, L2.tNotV, L2.tB, L2.tTest, L2.tOp, L2.tUn, L2.tNot, L2.tAnd, L2.tOr, L2.tIf, L2.tCall, L2.tTup, L2.tLst, L2.tNotT, L2.tYes, L2.gTup, L2.gCons, L2.gNil, L2.gSub, L2.tBM0, L2.tBM, L2.tWhile, L2.tFor, L2.iRng1, L2.iRng2, L2.tAugS, Tw.iEnumT, L2.tCKw, L2.tAug, L2.ipI, RT.iRevA, L2.tPar, L2.tPar3, L2.tSl, L2.tNoPart, L2.tPart, Tw.tRevT, Tw.tFput])
namespace K44
open PySem PySem.Spec PyProof.Rows L2 Tw
open K44R (polyD okP okR exch lng T numAt nums co g rw' trimI trimP col Ro RoA Po Pr Bd RelA Stable stable_ro stable_eq lc_relT lc_relL wipeJ Kt kt_upd max_lng RoA.kt Kt.of RelA.eq_map lng_bd)
/-- a written tuple whose object is known -/
def tTupZ (t : TA) : TE := fun σ H Q => t σ H fun vs H1 => vs.length ≤ sizeLine ∧ ∀ p o, H1 p = none → o.cls = Value.type "tuple" → o.dict = none → Q (.ref p) (upd H1 p (.frz o (.tup vs)))
theorem pe_tupZ {X : Cx} {es : List Expr} {t : TA} {x1 : Nat} {pos : Pos} (h : PA X es t) : PE X (.Tuple es x1 pos) (tTupZ t) := by
  refine ⟨fun pins s σ H Q I hq => ?_⟩
  refine wpAny_Tuple_spliced (thn (h.run pos pins s σ H _ I hq) fun us s1 ⟨xs, H1, I1, r, z, q⟩ => ⟨by rw [← r.length]; exact z, ?_⟩)
  have hf : H1 s1.heap.objs.size = none := I1.hok.fresh (Nat.le_refl _)
  refine ⟨.ref s1.heap.objs.size, upd H1 s1.heap.objs.size (.frz { cls := Value.type "tuple", data := Data.seq us.toArray } (.tup xs)), I1.laid (t' := s1.toks) (fun b u e => Heap.get?_push_of_some _ e) (Nat.le_refl _) ?_, rfl, q _ { cls := Value.type "tuple", data := Data.seq us.toArray } hf rfl rfl⟩
  exact ⟨Heap.get?_push_size _ rfl, z, us, r, ⟨_, Heap.get?_push_size _ rfl, rfl, _, rfl⟩⟩
def tBMz (T : String) (r : V → List V → Hp → VK → Prop) (to : TE) (t : TA) : TE := fun σ H Q => to σ H fun x H1 => (∃ p o u, x = .ref p ∧ H1 p = some (.frz o u) ∧ o.cls = .type T ∧ o.dict = none) ∧ t σ H1 fun xs H2 => r x xs H2 Q
theorem pe_bmz {X : Cx} {o e : Expr} {es : List Expr} {to : TE} {t : TA} {name : Str} {apos cpos : Pos} {T id : String} {r : V → List V → Hp → VK → Prop} (pa : PlainAttrs T) (slot : Slot T name id) (hty : typeOf (.builtin id) = pure (.type "method_descriptor")) (hm : MtR X id r) (ho : PE X o to) (ha : PA X (e :: es) t)
    (hbase : attributeBase o name X.env (eval o X.env) = eval o X.env := by rfl)
    (hfew : ((backTo cpos (starEach (e :: es) X.env)).all (fun x => !x.1) && (backToKw cpos (keywordEach [] X.env)).all (fun x => x.1.isSome)
      && decide ((e :: es).length + ([] : List Keyword).length + (if ([] : List Keyword).isEmpty then 0 else 1) < 30)) = true := by rfl)
    (hline : (apos.endLine == cpos.line) = true := by rfl) (hs : starEach (e :: es) X.env = (false, eval e X.env) :: starEach es X.env := by rfl) (hplain : (backTo cpos (starEach es X.env)).any (·.1) = false := by rfl) :
    PE X (.Call (.Attribute o name apos) (e :: es) [] cpos) (tBMz T r to t) := by
  refine ⟨fun pins s σ H Q I h => ?_⟩
  refine wpAny_Call_method_late hbase hfew hline rfl (thn (ho.run pins s σ H _ I h) fun v s1 ⟨x, H1, I1, r1, ty, q1⟩ => ?_)
  obtain ⟨p, ob, u, rfl, hp, hc, hd⟩ := ty
  obtain rfl : v = Value.ref p := r1
  obtain ⟨e1, _⟩ := I1.hok p _ hp
  refine ⟨T, id, pa, slot, hty, ⟨ob, e1, hc⟩, (fun a e2 => by cases e2; exact ⟨ob, e1, hd⟩), ?_⟩
  have hA := ha.run cpos pins s1 σ H1 _ I1 q1
  rw [hs] at hA ⊢
  refine Calls.callWith_builtin (by show (false || (backTo cpos (starEach es X.env)).any (·.1)) = false; rw [hplain] <;> rfl) (Calls.evalArgs_plain ?_)
  exact thn hA fun us s2 ⟨vs, H2, I2, r2, q2⟩ => hm pins s2 σ H2 (.ref p) vs (.ref p) us Q I2 rfl r2 q2
section
variable {P : Program} {w : World} {K : PySem.W.Frag} {mg : Str → Option Value} {base : Heap}
theorem scLed : FnScope ["_law_said", "_law_is_not", "_law_word", "_law_words"] ["_law_said", "_law_is_not"] (defScope sLed) := ⟨rfl, rfl, rfl, by decide +kernel, rfl, by decide +kernel, by decide +kernel⟩
theorem led_step {N : Nat} (D : Def K mg "_law_led" sLed ["_law_said", "_law_is_not"]) (c : Cal P w K mg base "_law_led" (N + 1) ["_law_said", "_law_is_not"] (spSPush N)) : Cal P w K mg base "_law_led" (N + 2) ["_law_said", "_law_is_not"] (spSPush (N + 1)) := by
  refine D.ok scLed (fun vs H Q E h => ?_) (fun f cdv A out s H vs Q E hr h => ?_)
  · obtain ⟨a, v, t, neg, rfl, _⟩ := h; rfl
  obtain ⟨a, v, t, neg, rfl, hw, hd, ho, hN, q⟩ := h
  refine ⟨_, (pss_cons (ps_set (i := 2) scLed.nd rfl (Or.inl rfl) (pe_ix (r := rIxT K) ix_tup (pv 0) pe_int (fun _ _ => rfl)))
    (pss_cons (ps_if (pt_cmpR op_eq (pv 2) pe_str (nomark _)) (pss_one (ps_ret (pe_cal c hr (by omega) (by rfl) (pa_cons (pe_ix (r := rIxT K) ix_tup (pv 0) pe_int (fun _ _ => rfl)) (pa_cons (pe_not (pv 1)) pa_nil))))) pss_nil)
    (Evl.pss_cut (ps_if (pt_val (pv 1)) (pss_cons (ps_set (i := 3) scLed.nd rfl (Or.inl rfl) (pe_tupZ (pa_cons pe_str (pa_cons pe_str (pa_cons pe_str (pa_cons pe_str (pa_cons pe_str (pa_cons pe_str pa_nil))))))))
    (pss_one (ps_if (pt_cmpR op_in_seq (pv 2) (pv 3) (by rfl)) (pss_one (ps_set (i := 2) scLed.nd rfl (Or.inl rfl) (pe_ix (r := rIxT K) ix_tup (pv 3) (pe_op op_add (pe_bmz PySem.F.plainAttrs_tuple PySem.F.slot_tuple_index PySem.F.type_tuple_index mt_tup_index (pv 3) (pa_cons (pv 2) pa_nil)) (pe_ifExp (pt_cmpR op_in_seq (pv 2) (pe_tup (pa_cons pe_str (pa_cons pe_str (pa_cons pe_str pa_nil)))) (by rfl)) pe_int (pe_un un_neg pe_int))) (fun _ _ => rfl)))) (pss_one (ps_set (i := 2) scLed.nd rfl (Or.inl rfl) (pe_ifExp (pt_cmpR op_eq (pe_slice sl_str (pv 2) po_none (po_some pe_int)) pe_str (nomark _)) (pe_slice sl_str (pv 2) (po_some pe_int) po_none) (pe_op op_add_str pe_str (pv 2)))))))) pss_nil)
    (pss_cons (ps_if (pt_cmpR op_in_seq (pv 2) (pe_tup (pa_cons pe_str (pa_cons pe_str pa_nil))) (by rfl)) (pss_one (ps_ret (pe_tup (pa_cons (pv 2) (pa_cons (pe_cal c hr (by omega) (by rfl) (pa_cons (pe_ix (r := rIxT K) ix_tup (pv 0) pe_int (fun _ _ => rfl)) (pa_cons (pv 1) pa_nil))) (pa_cons (pe_cal c hr (by omega) (by rfl) (pa_cons (pe_ix (r := rIxT K) ix_tup (pv 0) pe_int (fun _ _ => rfl)) (pa_cons (pv 1) pa_nil))) pa_nil)))))) pss_nil)
    (pss_cons (ps_if (pt_cmpR op_in_seq (pv 2) (pe_tup (pa_cons pe_str (pa_cons pe_str pa_nil))) (by rfl)) (pss_one (ps_ret (pe_tup (pa_cons (pv 2) (pa_cons (pe_ix (r := rIxT K) ix_tup (pv 0) pe_int (fun _ _ => rfl)) (pa_cons (pe_cal c hr (by omega) (by rfl) (pa_cons (pe_ix (r := rIxT K) ix_tup (pv 0) pe_int (fun _ _ => rfl)) (pa_cons (pv 1) pa_nil))) pa_nil)))))) pss_nil)
    (pss_one (ps_ret (pe_op op_catA (pe_tup (pa_cons (pv 2) pa_nil)) (pe_slice sl_tupA (pv 0) (po_some pe_int) po_none))))))))), ?_⟩
  walk_at "rd"
  cases t with
  | tt =>
    refine ⟨v, rfl, ix_at (n := 0) hd rfl fun y hy => ?_⟩
    cases hy
    refine ⟨.str _, rfl, rfl, _, rfl, iteF ?_⟩
    cases neg with
    | true =>
      refine ⟨fun σ' H' => ∃ x3 : Option V, σ' = [some v, some (.bl true), some (.str "false"), x3] ∧ Same H H', ?_, ?_⟩
      · refine ⟨.bl true, rfl, true, rfl, iteT ⟨sz (by simp), fun tW o nW hc hdn => ?_⟩⟩
        have s1 := same_new (o := .frz o (.tup ((["true", "false", "both", "either", "all", "some"] : List Str).map V.str))) nW
        have eW : upd H tW (.frz o (.tup ((["true", "false", "both", "either", "all", "some"] : List Str).map V.str))) tW = some (.frz o (.tup ((["true", "false", "both", "either", "all", "some"] : List Str).map V.str))) := upd_same
        show ∃ z, _
        refine ⟨.str _, rfl, .ref tW, rfl, tW, (["true", "false", "both", "either", "all", "some"] : List Str).map V.str, rfl, .inr (.inl (.inr ⟨o, eW⟩)), rfl, flat_all _, _, rfl, ?_⟩
        rw [if_neg Bool.false_ne_true, inS]
        refine iteT ⟨.ref tW, rfl, .ref tW, rfl, ⟨tW, o, _, rfl, eW, hc, hdn⟩, .str "true", rfl, tW, (["true", "false", "both", "either", "all", "some"] : List Str), "true", 0, rfl, rfl, .inl (.inr ⟨o, eW⟩), rfl, (by decide), .str _, rfl, in_new (l := ["true", "both", "all"]) rfl (by decide) fun H2 s2 => ?_⟩
        exact iteT ⟨_, _, rfl, rfl, tW, (["true", "false", "both", "either", "all", "some"] : List Str).map V.str, _, .str "false", rfl, rfl, .inl (.inr ⟨o, s2 _ _ eW⟩), rfl, some (.ref tW), rfl, s1.trans s2⟩
      rintro σ' H1 ⟨x3, rfl, s1⟩
      refine ⟨.str _, rfl, in_new (l := ["both", "either"]) rfl (by decide) fun H2 s2 => iteF ⟨.str _, rfl, in_new (l := ["all", "some"]) rfl (by decide) fun H3 s3 => iteF ?_⟩⟩
      have s3 := (s1.trans s2).trans s3
      refine ⟨.str _, rfl, sz (by simp), fun p np => ?_⟩
      obtain ⟨s6, d6⟩ := newT (hw.to s3).some (DaAll.cons (.str "false") .nil) np
      generalize upd H3 p _ = H6 at s6 d6 ⊢
      have s6 := s3.trans s6
      refine ⟨v, rfl, 1, rfl, sl_da (hw.to s6).some (hd.same s6) fun u9 H7 s7 d7 => ?_⟩
      rw [cut1] at d7
      exact cat_da ((hw.to s6).to s7).some (d6.same s7) d7 (by simp) fun v' H8 s8 d8 => q v' H8 ((s6.trans s7).trans s8) d8
    | false =>
      refine ⟨fun σ' H' => ∃ x3 : Option V, σ' = [some v, some (.bl false), some (.str "true"), x3] ∧ Same H H', ?_, ?_⟩
      · exact ⟨.bl false, rfl, false, rfl, iteF ⟨none, rfl, Same.refl _⟩⟩
      rintro σ' H1 ⟨x3, rfl, s1⟩
      refine ⟨.str _, rfl, in_new (l := ["both", "either"]) rfl (by decide) fun H2 s2 => iteF ⟨.str _, rfl, in_new (l := ["all", "some"]) rfl (by decide) fun H3 s3 => iteF ?_⟩⟩
      have s3 := (s1.trans s2).trans s3
      refine ⟨.str _, rfl, sz (by simp), fun p np => ?_⟩
      obtain ⟨s6, d6⟩ := newT (hw.to s3).some (DaAll.cons (.str "true") .nil) np
      generalize upd H3 p _ = H6 at s6 d6 ⊢
      have s6 := s3.trans s6
      refine ⟨v, rfl, 1, rfl, sl_da (hw.to s6).some (hd.same s6) fun u9 H7 s7 d7 => ?_⟩
      rw [cut1] at d7
      exact cat_da ((hw.to s6).to s7).some (d6.same s7) d7 (by simp) fun v' H8 s8 d8 => q v' H8 ((s6.trans s7).trans s8) d8
  | ff =>
    refine ⟨v, rfl, ix_at (n := 0) hd rfl fun y hy => ?_⟩
    cases hy
    refine ⟨.str _, rfl, rfl, _, rfl, iteF ?_⟩
    cases neg with
    | true =>
      refine ⟨fun σ' H' => ∃ x3 : Option V, σ' = [some v, some (.bl true), some (.str "true"), x3] ∧ Same H H', ?_, ?_⟩
      · refine ⟨.bl true, rfl, true, rfl, iteT ⟨sz (by simp), fun tW o nW hc hdn => ?_⟩⟩
        have s1 := same_new (o := .frz o (.tup ((["true", "false", "both", "either", "all", "some"] : List Str).map V.str))) nW
        have eW : upd H tW (.frz o (.tup ((["true", "false", "both", "either", "all", "some"] : List Str).map V.str))) tW = some (.frz o (.tup ((["true", "false", "both", "either", "all", "some"] : List Str).map V.str))) := upd_same
        show ∃ z, _
        refine ⟨.str _, rfl, .ref tW, rfl, tW, (["true", "false", "both", "either", "all", "some"] : List Str).map V.str, rfl, .inr (.inl (.inr ⟨o, eW⟩)), rfl, flat_all _, _, rfl, ?_⟩
        rw [if_neg Bool.false_ne_true, inS]
        refine iteT ⟨.ref tW, rfl, .ref tW, rfl, ⟨tW, o, _, rfl, eW, hc, hdn⟩, .str "false", rfl, tW, (["true", "false", "both", "either", "all", "some"] : List Str), "false", 1, rfl, rfl, .inl (.inr ⟨o, eW⟩), rfl, (by decide), .str _, rfl, in_new (l := ["true", "both", "all"]) rfl (by decide) fun H2 s2 => ?_⟩
        exact iteF ⟨_, rfl, _, _, rfl, rfl, tW, (["true", "false", "both", "either", "all", "some"] : List Str).map V.str, _, .str "true", rfl, rfl, .inl (.inr ⟨o, s2 _ _ eW⟩), rfl, some (.ref tW), rfl, s1.trans s2⟩
      rintro σ' H1 ⟨x3, rfl, s1⟩
      refine ⟨.str _, rfl, in_new (l := ["both", "either"]) rfl (by decide) fun H2 s2 => iteF ⟨.str _, rfl, in_new (l := ["all", "some"]) rfl (by decide) fun H3 s3 => iteF ?_⟩⟩
      have s3 := (s1.trans s2).trans s3
      refine ⟨.str _, rfl, sz (by simp), fun p np => ?_⟩
      obtain ⟨s6, d6⟩ := newT (hw.to s3).some (DaAll.cons (.str "true") .nil) np
      generalize upd H3 p _ = H6 at s6 d6 ⊢
      have s6 := s3.trans s6
      refine ⟨v, rfl, 1, rfl, sl_da (hw.to s6).some (hd.same s6) fun u9 H7 s7 d7 => ?_⟩
      rw [cut1] at d7
      exact cat_da ((hw.to s6).to s7).some (d6.same s7) d7 (by simp) fun v' H8 s8 d8 => q v' H8 ((s6.trans s7).trans s8) d8
    | false =>
      refine ⟨fun σ' H' => ∃ x3 : Option V, σ' = [some v, some (.bl false), some (.str "false"), x3] ∧ Same H H', ?_, ?_⟩
      · exact ⟨.bl false, rfl, false, rfl, iteF ⟨none, rfl, Same.refl _⟩⟩
      rintro σ' H1 ⟨x3, rfl, s1⟩
      refine ⟨.str _, rfl, in_new (l := ["both", "either"]) rfl (by decide) fun H2 s2 => iteF ⟨.str _, rfl, in_new (l := ["all", "some"]) rfl (by decide) fun H3 s3 => iteF ?_⟩⟩
      have s3 := (s1.trans s2).trans s3
      refine ⟨.str _, rfl, sz (by simp), fun p np => ?_⟩
      obtain ⟨s6, d6⟩ := newT (hw.to s3).some (DaAll.cons (.str "false") .nil) np
      generalize upd H3 p _ = H6 at s6 d6 ⊢
      have s6 := s3.trans s6
      refine ⟨v, rfl, 1, rfl, sl_da (hw.to s6).some (hd.same s6) fun u9 H7 s7 d7 => ?_⟩
      rw [cut1] at d7
      exact cat_da ((hw.to s6).to s7).some (d6.same s7) d7 (by simp) fun v' H8 s8 d8 => q v' H8 ((s6.trans s7).trans s8) d8
  | nn u =>
    rw [depth_nn] at hN
    refine ⟨v, rfl, ix_at (n := 0) hd rfl fun y hy => ?_⟩
    cases hy
    exact ⟨.str _, rfl, rfl, _, rfl, iteT ⟨v, rfl, ix_at (n := 1) hd rfl fun y hy => ⟨.bl neg, rfl, neg, rfl, a, y, u, !neg, rfl, hw, hy, ho, by omega, fun v1 H1 s1 d1 => q v1 H1 s1 d1⟩⟩⟩
  | bo b u u2 =>
    rw [depth_bo] at hN
    cases b with
    | true =>
      refine ⟨v, rfl, ix_at (n := 0) hd rfl fun y hy => ?_⟩
      cases hy
      refine ⟨.str _, rfl, rfl, _, rfl, iteF ?_⟩
      cases neg with
      | true =>
        refine ⟨fun σ' H' => ∃ x3 : Option V, σ' = [some v, some (.bl true), some (.str "either"), x3] ∧ Same H H', ?_, ?_⟩
        · refine ⟨.bl true, rfl, true, rfl, iteT ⟨sz (by simp), fun tW o nW hc hdn => ?_⟩⟩
          have s1 := same_new (o := .frz o (.tup ((["true", "false", "both", "either", "all", "some"] : List Str).map V.str))) nW
          have eW : upd H tW (.frz o (.tup ((["true", "false", "both", "either", "all", "some"] : List Str).map V.str))) tW = some (.frz o (.tup ((["true", "false", "both", "either", "all", "some"] : List Str).map V.str))) := upd_same
          show ∃ z, _
          refine ⟨.str _, rfl, .ref tW, rfl, tW, (["true", "false", "both", "either", "all", "some"] : List Str).map V.str, rfl, .inr (.inl (.inr ⟨o, eW⟩)), rfl, flat_all _, _, rfl, ?_⟩
          rw [if_neg Bool.false_ne_true, inS]
          refine iteT ⟨.ref tW, rfl, .ref tW, rfl, ⟨tW, o, _, rfl, eW, hc, hdn⟩, .str "both", rfl, tW, (["true", "false", "both", "either", "all", "some"] : List Str), "both", 2, rfl, rfl, .inl (.inr ⟨o, eW⟩), rfl, (by decide), .str _, rfl, in_new (l := ["true", "both", "all"]) rfl (by decide) fun H2 s2 => ?_⟩
          exact iteT ⟨_, _, rfl, rfl, tW, (["true", "false", "both", "either", "all", "some"] : List Str).map V.str, _, .str "either", rfl, rfl, .inl (.inr ⟨o, s2 _ _ eW⟩), rfl, some (.ref tW), rfl, s1.trans s2⟩
        rintro σ' H1 ⟨x3, rfl, s1⟩
        refine ⟨.str _, rfl, in_new (l := ["both", "either"]) rfl (by decide) fun H2 s2 => iteT ?_⟩
        have s2 := s1.trans s2
        refine ⟨.str _, rfl, v, rfl, ix_at (n := 1) (hd.same s2) rfl fun y hy => ⟨.bl true, rfl, a, y, u, true, rfl, hw.to s2, hy, ho.1, by omega, fun v1 H3 s3 d1 => ?_⟩⟩
        have s23 := s2.trans s3
        refine ⟨v, rfl, ix_at (n := 2) (hd.same s23) rfl fun y hy => ⟨.bl true, rfl, a, y, u2, true, rfl, hw.to s23, hy, ho.2, by omega, fun v2 H4 s4 d2 => ⟨sz (by simp), fun p np => ?_⟩⟩⟩
        have s24 := s23.trans s4
        obtain ⟨s5, d5⟩ := newT (hw.to s24).some (DaAll.cons (.str "either") (.cons (d1.same s4) (.cons d2 .nil))) np
        exact q _ _ (s24.trans s5) d5
      | false =>
        refine ⟨fun σ' H' => ∃ x3 : Option V, σ' = [some v, some (.bl false), some (.str "both"), x3] ∧ Same H H', ?_, ?_⟩
        · exact ⟨.bl false, rfl, false, rfl, iteF ⟨none, rfl, Same.refl _⟩⟩
        rintro σ' H1 ⟨x3, rfl, s1⟩
        refine ⟨.str _, rfl, in_new (l := ["both", "either"]) rfl (by decide) fun H2 s2 => iteT ?_⟩
        have s2 := s1.trans s2
        refine ⟨.str _, rfl, v, rfl, ix_at (n := 1) (hd.same s2) rfl fun y hy => ⟨.bl false, rfl, a, y, u, false, rfl, hw.to s2, hy, ho.1, by omega, fun v1 H3 s3 d1 => ?_⟩⟩
        have s23 := s2.trans s3
        refine ⟨v, rfl, ix_at (n := 2) (hd.same s23) rfl fun y hy => ⟨.bl false, rfl, a, y, u2, false, rfl, hw.to s23, hy, ho.2, by omega, fun v2 H4 s4 d2 => ⟨sz (by simp), fun p np => ?_⟩⟩⟩
        have s24 := s23.trans s4
        obtain ⟨s5, d5⟩ := newT (hw.to s24).some (DaAll.cons (.str "both") (.cons (d1.same s4) (.cons d2 .nil))) np
        exact q _ _ (s24.trans s5) d5
    | false =>
      refine ⟨v, rfl, ix_at (n := 0) hd rfl fun y hy => ?_⟩
      cases hy
      refine ⟨.str _, rfl, rfl, _, rfl, iteF ?_⟩
      cases neg with
      | true =>
        refine ⟨fun σ' H' => ∃ x3 : Option V, σ' = [some v, some (.bl true), some (.str "both"), x3] ∧ Same H H', ?_, ?_⟩
        · refine ⟨.bl true, rfl, true, rfl, iteT ⟨sz (by simp), fun tW o nW hc hdn => ?_⟩⟩
          have s1 := same_new (o := .frz o (.tup ((["true", "false", "both", "either", "all", "some"] : List Str).map V.str))) nW
          have eW : upd H tW (.frz o (.tup ((["true", "false", "both", "either", "all", "some"] : List Str).map V.str))) tW = some (.frz o (.tup ((["true", "false", "both", "either", "all", "some"] : List Str).map V.str))) := upd_same
          show ∃ z, _
          refine ⟨.str _, rfl, .ref tW, rfl, tW, (["true", "false", "both", "either", "all", "some"] : List Str).map V.str, rfl, .inr (.inl (.inr ⟨o, eW⟩)), rfl, flat_all _, _, rfl, ?_⟩
          rw [if_neg Bool.false_ne_true, inS]
          refine iteT ⟨.ref tW, rfl, .ref tW, rfl, ⟨tW, o, _, rfl, eW, hc, hdn⟩, .str "either", rfl, tW, (["true", "false", "both", "either", "all", "some"] : List Str), "either", 3, rfl, rfl, .inl (.inr ⟨o, eW⟩), rfl, (by decide), .str _, rfl, in_new (l := ["true", "both", "all"]) rfl (by decide) fun H2 s2 => ?_⟩
          exact iteF ⟨_, rfl, _, _, rfl, rfl, tW, (["true", "false", "both", "either", "all", "some"] : List Str).map V.str, _, .str "both", rfl, rfl, .inl (.inr ⟨o, s2 _ _ eW⟩), rfl, some (.ref tW), rfl, s1.trans s2⟩
        rintro σ' H1 ⟨x3, rfl, s1⟩
        refine ⟨.str _, rfl, in_new (l := ["both", "either"]) rfl (by decide) fun H2 s2 => iteT ?_⟩
        have s2 := s1.trans s2
        refine ⟨.str _, rfl, v, rfl, ix_at (n := 1) (hd.same s2) rfl fun y hy => ⟨.bl true, rfl, a, y, u, true, rfl, hw.to s2, hy, ho.1, by omega, fun v1 H3 s3 d1 => ?_⟩⟩
        have s23 := s2.trans s3
        refine ⟨v, rfl, ix_at (n := 2) (hd.same s23) rfl fun y hy => ⟨.bl true, rfl, a, y, u2, true, rfl, hw.to s23, hy, ho.2, by omega, fun v2 H4 s4 d2 => ⟨sz (by simp), fun p np => ?_⟩⟩⟩
        have s24 := s23.trans s4
        obtain ⟨s5, d5⟩ := newT (hw.to s24).some (DaAll.cons (.str "both") (.cons (d1.same s4) (.cons d2 .nil))) np
        exact q _ _ (s24.trans s5) d5
      | false =>
        refine ⟨fun σ' H' => ∃ x3 : Option V, σ' = [some v, some (.bl false), some (.str "either"), x3] ∧ Same H H', ?_, ?_⟩
        · exact ⟨.bl false, rfl, false, rfl, iteF ⟨none, rfl, Same.refl _⟩⟩
        rintro σ' H1 ⟨x3, rfl, s1⟩
        refine ⟨.str _, rfl, in_new (l := ["both", "either"]) rfl (by decide) fun H2 s2 => iteT ?_⟩
        have s2 := s1.trans s2
        refine ⟨.str _, rfl, v, rfl, ix_at (n := 1) (hd.same s2) rfl fun y hy => ⟨.bl false, rfl, a, y, u, false, rfl, hw.to s2, hy, ho.1, by omega, fun v1 H3 s3 d1 => ?_⟩⟩
        have s23 := s2.trans s3
        refine ⟨v, rfl, ix_at (n := 2) (hd.same s23) rfl fun y hy => ⟨.bl false, rfl, a, y, u2, false, rfl, hw.to s23, hy, ho.2, by omega, fun v2 H4 s4 d2 => ⟨sz (by simp), fun p np => ?_⟩⟩⟩
        have s24 := s23.trans s4
        obtain ⟨s5, d5⟩ := newT (hw.to s24).some (DaAll.cons (.str "either") (.cons (d1.same s4) (.cons d2 .nil))) np
        exact q _ _ (s24.trans s5) d5
  | qu al x1 u =>
    rw [depth_qu] at hN
    cases al with
    | true =>
      refine ⟨v, rfl, ix_at (n := 0) hd rfl fun y hy => ?_⟩
      cases hy
      refine ⟨.str _, rfl, rfl, _, rfl, iteF ?_⟩
      cases neg with
      | true =>
        refine ⟨fun σ' H' => ∃ x3 : Option V, σ' = [some v, some (.bl true), some (.str "some"), x3] ∧ Same H H', ?_, ?_⟩
        · refine ⟨.bl true, rfl, true, rfl, iteT ⟨sz (by simp), fun tW o nW hc hdn => ?_⟩⟩
          have s1 := same_new (o := .frz o (.tup ((["true", "false", "both", "either", "all", "some"] : List Str).map V.str))) nW
          have eW : upd H tW (.frz o (.tup ((["true", "false", "both", "either", "all", "some"] : List Str).map V.str))) tW = some (.frz o (.tup ((["true", "false", "both", "either", "all", "some"] : List Str).map V.str))) := upd_same
          show ∃ z, _
          refine ⟨.str _, rfl, .ref tW, rfl, tW, (["true", "false", "both", "either", "all", "some"] : List Str).map V.str, rfl, .inr (.inl (.inr ⟨o, eW⟩)), rfl, flat_all _, _, rfl, ?_⟩
          rw [if_neg Bool.false_ne_true, inS]
          refine iteT ⟨.ref tW, rfl, .ref tW, rfl, ⟨tW, o, _, rfl, eW, hc, hdn⟩, .str "all", rfl, tW, (["true", "false", "both", "either", "all", "some"] : List Str), "all", 4, rfl, rfl, .inl (.inr ⟨o, eW⟩), rfl, (by decide), .str _, rfl, in_new (l := ["true", "both", "all"]) rfl (by decide) fun H2 s2 => ?_⟩
          exact iteT ⟨_, _, rfl, rfl, tW, (["true", "false", "both", "either", "all", "some"] : List Str).map V.str, _, .str "some", rfl, rfl, .inl (.inr ⟨o, s2 _ _ eW⟩), rfl, some (.ref tW), rfl, s1.trans s2⟩
        rintro σ' H1 ⟨x3, rfl, s1⟩
        refine ⟨.str _, rfl, in_new (l := ["both", "either"]) rfl (by decide) fun H2 s2 => iteF ⟨.str _, rfl, in_new (l := ["all", "some"]) rfl (by decide) fun H3 s3 => iteT ?_⟩⟩
        have s3 := (s1.trans s2).trans s3
        refine ⟨.str _, rfl, v, rfl, ix_at (n := 1) (hd.same s3) rfl fun y hy => ?_⟩
        cases hy
        refine ⟨v, rfl, ix_at (n := 2) (hd.same s3) rfl fun y hy => ⟨.bl true, rfl, a, y, u, true, rfl, hw.to s3, hy, ho, by omega, fun v1 H4 s4 d1 => ⟨sz (by simp), fun p np => ?_⟩⟩⟩
        have s4 := s3.trans s4
        obtain ⟨s5, d5⟩ := newT (hw.to s4).some (DaAll.cons (.str "some") (.cons (.str _) (.cons d1 .nil))) np
        exact q _ _ (s4.trans s5) d5
      | false =>
        refine ⟨fun σ' H' => ∃ x3 : Option V, σ' = [some v, some (.bl false), some (.str "all"), x3] ∧ Same H H', ?_, ?_⟩
        · exact ⟨.bl false, rfl, false, rfl, iteF ⟨none, rfl, Same.refl _⟩⟩
        rintro σ' H1 ⟨x3, rfl, s1⟩
        refine ⟨.str _, rfl, in_new (l := ["both", "either"]) rfl (by decide) fun H2 s2 => iteF ⟨.str _, rfl, in_new (l := ["all", "some"]) rfl (by decide) fun H3 s3 => iteT ?_⟩⟩
        have s3 := (s1.trans s2).trans s3
        refine ⟨.str _, rfl, v, rfl, ix_at (n := 1) (hd.same s3) rfl fun y hy => ?_⟩
        cases hy
        refine ⟨v, rfl, ix_at (n := 2) (hd.same s3) rfl fun y hy => ⟨.bl false, rfl, a, y, u, false, rfl, hw.to s3, hy, ho, by omega, fun v1 H4 s4 d1 => ⟨sz (by simp), fun p np => ?_⟩⟩⟩
        have s4 := s3.trans s4
        obtain ⟨s5, d5⟩ := newT (hw.to s4).some (DaAll.cons (.str "all") (.cons (.str _) (.cons d1 .nil))) np
        exact q _ _ (s4.trans s5) d5
    | false =>
      refine ⟨v, rfl, ix_at (n := 0) hd rfl fun y hy => ?_⟩
      cases hy
      refine ⟨.str _, rfl, rfl, _, rfl, iteF ?_⟩
      cases neg with
      | true =>
        refine ⟨fun σ' H' => ∃ x3 : Option V, σ' = [some v, some (.bl true), some (.str "all"), x3] ∧ Same H H', ?_, ?_⟩
        · refine ⟨.bl true, rfl, true, rfl, iteT ⟨sz (by simp), fun tW o nW hc hdn => ?_⟩⟩
          have s1 := same_new (o := .frz o (.tup ((["true", "false", "both", "either", "all", "some"] : List Str).map V.str))) nW
          have eW : upd H tW (.frz o (.tup ((["true", "false", "both", "either", "all", "some"] : List Str).map V.str))) tW = some (.frz o (.tup ((["true", "false", "both", "either", "all", "some"] : List Str).map V.str))) := upd_same
          show ∃ z, _
          refine ⟨.str _, rfl, .ref tW, rfl, tW, (["true", "false", "both", "either", "all", "some"] : List Str).map V.str, rfl, .inr (.inl (.inr ⟨o, eW⟩)), rfl, flat_all _, _, rfl, ?_⟩
          rw [if_neg Bool.false_ne_true, inS]
          refine iteT ⟨.ref tW, rfl, .ref tW, rfl, ⟨tW, o, _, rfl, eW, hc, hdn⟩, .str "some", rfl, tW, (["true", "false", "both", "either", "all", "some"] : List Str), "some", 5, rfl, rfl, .inl (.inr ⟨o, eW⟩), rfl, (by decide), .str _, rfl, in_new (l := ["true", "both", "all"]) rfl (by decide) fun H2 s2 => ?_⟩
          exact iteF ⟨_, rfl, _, _, rfl, rfl, tW, (["true", "false", "both", "either", "all", "some"] : List Str).map V.str, _, .str "all", rfl, rfl, .inl (.inr ⟨o, s2 _ _ eW⟩), rfl, some (.ref tW), rfl, s1.trans s2⟩
        rintro σ' H1 ⟨x3, rfl, s1⟩
        refine ⟨.str _, rfl, in_new (l := ["both", "either"]) rfl (by decide) fun H2 s2 => iteF ⟨.str _, rfl, in_new (l := ["all", "some"]) rfl (by decide) fun H3 s3 => iteT ?_⟩⟩
        have s3 := (s1.trans s2).trans s3
        refine ⟨.str _, rfl, v, rfl, ix_at (n := 1) (hd.same s3) rfl fun y hy => ?_⟩
        cases hy
        refine ⟨v, rfl, ix_at (n := 2) (hd.same s3) rfl fun y hy => ⟨.bl true, rfl, a, y, u, true, rfl, hw.to s3, hy, ho, by omega, fun v1 H4 s4 d1 => ⟨sz (by simp), fun p np => ?_⟩⟩⟩
        have s4 := s3.trans s4
        obtain ⟨s5, d5⟩ := newT (hw.to s4).some (DaAll.cons (.str "all") (.cons (.str _) (.cons d1 .nil))) np
        exact q _ _ (s4.trans s5) d5
      | false =>
        refine ⟨fun σ' H' => ∃ x3 : Option V, σ' = [some v, some (.bl false), some (.str "some"), x3] ∧ Same H H', ?_, ?_⟩
        · exact ⟨.bl false, rfl, false, rfl, iteF ⟨none, rfl, Same.refl _⟩⟩
        rintro σ' H1 ⟨x3, rfl, s1⟩
        refine ⟨.str _, rfl, in_new (l := ["both", "either"]) rfl (by decide) fun H2 s2 => iteF ⟨.str _, rfl, in_new (l := ["all", "some"]) rfl (by decide) fun H3 s3 => iteT ?_⟩⟩
        have s3 := (s1.trans s2).trans s3
        refine ⟨.str _, rfl, v, rfl, ix_at (n := 1) (hd.same s3) rfl fun y hy => ?_⟩
        cases hy
        refine ⟨v, rfl, ix_at (n := 2) (hd.same s3) rfl fun y hy => ⟨.bl false, rfl, a, y, u, false, rfl, hw.to s3, hy, ho, by omega, fun v1 H4 s4 d1 => ⟨sz (by simp), fun p np => ?_⟩⟩⟩
        have s4 := s3.trans s4
        obtain ⟨s5, d5⟩ := newT (hw.to s4).some (DaAll.cons (.str "some") (.cons (.str _) (.cons d1 .nil))) np
        exact q _ _ (s4.trans s5) d5
  | re wd pl =>
    obtain ⟨ho1, ho2⟩ := ho
    simp only [rels, List.mem_cons, List.not_mem_nil, or_false] at ho1
    rcases ho1 with rfl | rfl | rfl | rfl | rfl | rfl
    · refine ⟨v, rfl, ix_at (n := 0) hd rfl fun y hy => ?_⟩
      cases hy
      refine ⟨.str _, rfl, rfl, _, rfl, iteF ?_⟩
      cases neg with
      | true =>
        refine ⟨fun σ' H' => ∃ x3 : Option V, σ' = [some v, some (.bl true), some (.str "not below"), x3] ∧ Same H H', ?_, ?_⟩
        · refine ⟨.bl true, rfl, true, rfl, iteT ⟨sz (by simp), fun tW o nW hc hdn => ?_⟩⟩
          have s1 := same_new (o := .frz o (.tup ((["true", "false", "both", "either", "all", "some"] : List Str).map V.str))) nW
          have eW : upd H tW (.frz o (.tup ((["true", "false", "both", "either", "all", "some"] : List Str).map V.str))) tW = some (.frz o (.tup ((["true", "false", "both", "either", "all", "some"] : List Str).map V.str))) := upd_same
          show ∃ z, _
          refine ⟨.str _, rfl, .ref tW, rfl, tW, (["true", "false", "both", "either", "all", "some"] : List Str).map V.str, rfl, .inr (.inl (.inr ⟨o, eW⟩)), rfl, flat_all _, _, rfl, ?_⟩
          rw [if_neg Bool.false_ne_true, inS]
          refine iteF ⟨.str _, rfl, 4, rfl, "below", rfl, sz (by decide), rfl, _, rfl, ?_⟩
          rw [show decide (V.str (cutS "below" none (some 4)) = V.str "not ") = false from by decide]
          refine iteF ⟨.str _, rfl, "not ", "below", rfl, rfl, sz (by decide), ?_⟩
          rw [show ("not " : Str) ++ "below" = "not below" from by decide]
          exact ⟨some (.ref tW), rfl, s1⟩
        rintro σ' H1 ⟨x3, rfl, s1⟩
        refine ⟨.str _, rfl, in_new (l := ["both", "either"]) rfl (by decide) fun H2 s2 => iteF ⟨.str _, rfl, in_new (l := ["all", "some"]) rfl (by decide) fun H3 s3 => iteF ?_⟩⟩
        have s3 := (s1.trans s2).trans s3
        refine ⟨.str _, rfl, sz (by simp), fun p np => ?_⟩
        obtain ⟨s6, d6⟩ := newT (hw.to s3).some (DaAll.cons (.str "not below") .nil) np
        generalize upd H3 p _ = H6 at s6 d6 ⊢
        have s6 := s3.trans s6
        refine ⟨v, rfl, 1, rfl, sl_da (hw.to s6).some (hd.same s6) fun u9 H7 s7 d7 => ?_⟩
        rw [cut1] at d7
        exact cat_da ((hw.to s6).to s7).some (d6.same s7) d7 (by simp) fun v' H8 s8 d8 => q v' H8 ((s6.trans s7).trans s8) d8
      | false =>
        refine ⟨fun σ' H' => ∃ x3 : Option V, σ' = [some v, some (.bl false), some (.str "below"), x3] ∧ Same H H', ?_, ?_⟩
        · exact ⟨.bl false, rfl, false, rfl, iteF ⟨none, rfl, Same.refl _⟩⟩
        rintro σ' H1 ⟨x3, rfl, s1⟩
        refine ⟨.str _, rfl, in_new (l := ["both", "either"]) rfl (by decide) fun H2 s2 => iteF ⟨.str _, rfl, in_new (l := ["all", "some"]) rfl (by decide) fun H3 s3 => iteF ?_⟩⟩
        have s3 := (s1.trans s2).trans s3
        refine ⟨.str _, rfl, sz (by simp), fun p np => ?_⟩
        obtain ⟨s6, d6⟩ := newT (hw.to s3).some (DaAll.cons (.str "below") .nil) np
        generalize upd H3 p _ = H6 at s6 d6 ⊢
        have s6 := s3.trans s6
        refine ⟨v, rfl, 1, rfl, sl_da (hw.to s6).some (hd.same s6) fun u9 H7 s7 d7 => ?_⟩
        rw [cut1] at d7
        exact cat_da ((hw.to s6).to s7).some (d6.same s7) d7 (by simp) fun v' H8 s8 d8 => q v' H8 ((s6.trans s7).trans s8) d8
    · refine ⟨v, rfl, ix_at (n := 0) hd rfl fun y hy => ?_⟩
      cases hy
      refine ⟨.str _, rfl, rfl, _, rfl, iteF ?_⟩
      cases neg with
      | true =>
        refine ⟨fun σ' H' => ∃ x3 : Option V, σ' = [some v, some (.bl true), some (.str "not at"), x3] ∧ Same H H', ?_, ?_⟩
        · refine ⟨.bl true, rfl, true, rfl, iteT ⟨sz (by simp), fun tW o nW hc hdn => ?_⟩⟩
          have s1 := same_new (o := .frz o (.tup ((["true", "false", "both", "either", "all", "some"] : List Str).map V.str))) nW
          have eW : upd H tW (.frz o (.tup ((["true", "false", "both", "either", "all", "some"] : List Str).map V.str))) tW = some (.frz o (.tup ((["true", "false", "both", "either", "all", "some"] : List Str).map V.str))) := upd_same
          show ∃ z, _
          refine ⟨.str _, rfl, .ref tW, rfl, tW, (["true", "false", "both", "either", "all", "some"] : List Str).map V.str, rfl, .inr (.inl (.inr ⟨o, eW⟩)), rfl, flat_all _, _, rfl, ?_⟩
          rw [if_neg Bool.false_ne_true, inS]
          refine iteF ⟨.str _, rfl, 4, rfl, "at", rfl, sz (by decide), rfl, _, rfl, ?_⟩
          rw [show decide (V.str (cutS "at" none (some 4)) = V.str "not ") = false from by decide]
          refine iteF ⟨.str _, rfl, "not ", "at", rfl, rfl, sz (by decide), ?_⟩
          rw [show ("not " : Str) ++ "at" = "not at" from by decide]
          exact ⟨some (.ref tW), rfl, s1⟩
        rintro σ' H1 ⟨x3, rfl, s1⟩
        refine ⟨.str _, rfl, in_new (l := ["both", "either"]) rfl (by decide) fun H2 s2 => iteF ⟨.str _, rfl, in_new (l := ["all", "some"]) rfl (by decide) fun H3 s3 => iteF ?_⟩⟩
        have s3 := (s1.trans s2).trans s3
        refine ⟨.str _, rfl, sz (by simp), fun p np => ?_⟩
        obtain ⟨s6, d6⟩ := newT (hw.to s3).some (DaAll.cons (.str "not at") .nil) np
        generalize upd H3 p _ = H6 at s6 d6 ⊢
        have s6 := s3.trans s6
        refine ⟨v, rfl, 1, rfl, sl_da (hw.to s6).some (hd.same s6) fun u9 H7 s7 d7 => ?_⟩
        rw [cut1] at d7
        exact cat_da ((hw.to s6).to s7).some (d6.same s7) d7 (by simp) fun v' H8 s8 d8 => q v' H8 ((s6.trans s7).trans s8) d8
      | false =>
        refine ⟨fun σ' H' => ∃ x3 : Option V, σ' = [some v, some (.bl false), some (.str "at"), x3] ∧ Same H H', ?_, ?_⟩
        · exact ⟨.bl false, rfl, false, rfl, iteF ⟨none, rfl, Same.refl _⟩⟩
        rintro σ' H1 ⟨x3, rfl, s1⟩
        refine ⟨.str _, rfl, in_new (l := ["both", "either"]) rfl (by decide) fun H2 s2 => iteF ⟨.str _, rfl, in_new (l := ["all", "some"]) rfl (by decide) fun H3 s3 => iteF ?_⟩⟩
        have s3 := (s1.trans s2).trans s3
        refine ⟨.str _, rfl, sz (by simp), fun p np => ?_⟩
        obtain ⟨s6, d6⟩ := newT (hw.to s3).some (DaAll.cons (.str "at") .nil) np
        generalize upd H3 p _ = H6 at s6 d6 ⊢
        have s6 := s3.trans s6
        refine ⟨v, rfl, 1, rfl, sl_da (hw.to s6).some (hd.same s6) fun u9 H7 s7 d7 => ?_⟩
        rw [cut1] at d7
        exact cat_da ((hw.to s6).to s7).some (d6.same s7) d7 (by simp) fun v' H8 s8 d8 => q v' H8 ((s6.trans s7).trans s8) d8
    · refine ⟨v, rfl, ix_at (n := 0) hd rfl fun y hy => ?_⟩
      cases hy
      refine ⟨.str _, rfl, rfl, _, rfl, iteF ?_⟩
      cases neg with
      | true =>
        refine ⟨fun σ' H' => ∃ x3 : Option V, σ' = [some v, some (.bl true), some (.str "not above"), x3] ∧ Same H H', ?_, ?_⟩
        · refine ⟨.bl true, rfl, true, rfl, iteT ⟨sz (by simp), fun tW o nW hc hdn => ?_⟩⟩
          have s1 := same_new (o := .frz o (.tup ((["true", "false", "both", "either", "all", "some"] : List Str).map V.str))) nW
          have eW : upd H tW (.frz o (.tup ((["true", "false", "both", "either", "all", "some"] : List Str).map V.str))) tW = some (.frz o (.tup ((["true", "false", "both", "either", "all", "some"] : List Str).map V.str))) := upd_same
          show ∃ z, _
          refine ⟨.str _, rfl, .ref tW, rfl, tW, (["true", "false", "both", "either", "all", "some"] : List Str).map V.str, rfl, .inr (.inl (.inr ⟨o, eW⟩)), rfl, flat_all _, _, rfl, ?_⟩
          rw [if_neg Bool.false_ne_true, inS]
          refine iteF ⟨.str _, rfl, 4, rfl, "above", rfl, sz (by decide), rfl, _, rfl, ?_⟩
          rw [show decide (V.str (cutS "above" none (some 4)) = V.str "not ") = false from by decide]
          refine iteF ⟨.str _, rfl, "not ", "above", rfl, rfl, sz (by decide), ?_⟩
          rw [show ("not " : Str) ++ "above" = "not above" from by decide]
          exact ⟨some (.ref tW), rfl, s1⟩
        rintro σ' H1 ⟨x3, rfl, s1⟩
        refine ⟨.str _, rfl, in_new (l := ["both", "either"]) rfl (by decide) fun H2 s2 => iteF ⟨.str _, rfl, in_new (l := ["all", "some"]) rfl (by decide) fun H3 s3 => iteF ?_⟩⟩
        have s3 := (s1.trans s2).trans s3
        refine ⟨.str _, rfl, sz (by simp), fun p np => ?_⟩
        obtain ⟨s6, d6⟩ := newT (hw.to s3).some (DaAll.cons (.str "not above") .nil) np
        generalize upd H3 p _ = H6 at s6 d6 ⊢
        have s6 := s3.trans s6
        refine ⟨v, rfl, 1, rfl, sl_da (hw.to s6).some (hd.same s6) fun u9 H7 s7 d7 => ?_⟩
        rw [cut1] at d7
        exact cat_da ((hw.to s6).to s7).some (d6.same s7) d7 (by simp) fun v' H8 s8 d8 => q v' H8 ((s6.trans s7).trans s8) d8
      | false =>
        refine ⟨fun σ' H' => ∃ x3 : Option V, σ' = [some v, some (.bl false), some (.str "above"), x3] ∧ Same H H', ?_, ?_⟩
        · exact ⟨.bl false, rfl, false, rfl, iteF ⟨none, rfl, Same.refl _⟩⟩
        rintro σ' H1 ⟨x3, rfl, s1⟩
        refine ⟨.str _, rfl, in_new (l := ["both", "either"]) rfl (by decide) fun H2 s2 => iteF ⟨.str _, rfl, in_new (l := ["all", "some"]) rfl (by decide) fun H3 s3 => iteF ?_⟩⟩
        have s3 := (s1.trans s2).trans s3
        refine ⟨.str _, rfl, sz (by simp), fun p np => ?_⟩
        obtain ⟨s6, d6⟩ := newT (hw.to s3).some (DaAll.cons (.str "above") .nil) np
        generalize upd H3 p _ = H6 at s6 d6 ⊢
        have s6 := s3.trans s6
        refine ⟨v, rfl, 1, rfl, sl_da (hw.to s6).some (hd.same s6) fun u9 H7 s7 d7 => ?_⟩
        rw [cut1] at d7
        exact cat_da ((hw.to s6).to s7).some (d6.same s7) d7 (by simp) fun v' H8 s8 d8 => q v' H8 ((s6.trans s7).trans s8) d8
    · refine ⟨v, rfl, ix_at (n := 0) hd rfl fun y hy => ?_⟩
      cases hy
      refine ⟨.str _, rfl, rfl, _, rfl, iteF ?_⟩
      cases neg with
      | true =>
        refine ⟨fun σ' H' => ∃ x3 : Option V, σ' = [some v, some (.bl true), some (.str "below"), x3] ∧ Same H H', ?_, ?_⟩
        · refine ⟨.bl true, rfl, true, rfl, iteT ⟨sz (by simp), fun tW o nW hc hdn => ?_⟩⟩
          have s1 := same_new (o := .frz o (.tup ((["true", "false", "both", "either", "all", "some"] : List Str).map V.str))) nW
          have eW : upd H tW (.frz o (.tup ((["true", "false", "both", "either", "all", "some"] : List Str).map V.str))) tW = some (.frz o (.tup ((["true", "false", "both", "either", "all", "some"] : List Str).map V.str))) := upd_same
          show ∃ z, _
          refine ⟨.str _, rfl, .ref tW, rfl, tW, (["true", "false", "both", "either", "all", "some"] : List Str).map V.str, rfl, .inr (.inl (.inr ⟨o, eW⟩)), rfl, flat_all _, _, rfl, ?_⟩
          rw [if_neg Bool.false_ne_true, inS]
          refine iteF ⟨.str _, rfl, 4, rfl, "not below", rfl, sz (by decide), rfl, _, rfl, ?_⟩
          rw [show decide (V.str (cutS "not below" none (some 4)) = V.str "not ") = true from by decide]
          refine iteT ⟨.str _, rfl, 4, rfl, "not below", rfl, sz (by decide), ?_⟩
          rw [show cutS "not below" (some 4) none = "below" from by decide]
          exact ⟨some (.ref tW), rfl, s1⟩
        rintro σ' H1 ⟨x3, rfl, s1⟩
        refine ⟨.str _, rfl, in_new (l := ["both", "either"]) rfl (by decide) fun H2 s2 => iteF ⟨.str _, rfl, in_new (l := ["all", "some"]) rfl (by decide) fun H3 s3 => iteF ?_⟩⟩
        have s3 := (s1.trans s2).trans s3
        refine ⟨.str _, rfl, sz (by simp), fun p np => ?_⟩
        obtain ⟨s6, d6⟩ := newT (hw.to s3).some (DaAll.cons (.str "below") .nil) np
        generalize upd H3 p _ = H6 at s6 d6 ⊢
        have s6 := s3.trans s6
        refine ⟨v, rfl, 1, rfl, sl_da (hw.to s6).some (hd.same s6) fun u9 H7 s7 d7 => ?_⟩
        rw [cut1] at d7
        exact cat_da ((hw.to s6).to s7).some (d6.same s7) d7 (by simp) fun v' H8 s8 d8 => q v' H8 ((s6.trans s7).trans s8) d8
      | false =>
        refine ⟨fun σ' H' => ∃ x3 : Option V, σ' = [some v, some (.bl false), some (.str "not below"), x3] ∧ Same H H', ?_, ?_⟩
        · exact ⟨.bl false, rfl, false, rfl, iteF ⟨none, rfl, Same.refl _⟩⟩
        rintro σ' H1 ⟨x3, rfl, s1⟩
        refine ⟨.str _, rfl, in_new (l := ["both", "either"]) rfl (by decide) fun H2 s2 => iteF ⟨.str _, rfl, in_new (l := ["all", "some"]) rfl (by decide) fun H3 s3 => iteF ?_⟩⟩
        have s3 := (s1.trans s2).trans s3
        refine ⟨.str _, rfl, sz (by simp), fun p np => ?_⟩
        obtain ⟨s6, d6⟩ := newT (hw.to s3).some (DaAll.cons (.str "not below") .nil) np
        generalize upd H3 p _ = H6 at s6 d6 ⊢
        have s6 := s3.trans s6
        refine ⟨v, rfl, 1, rfl, sl_da (hw.to s6).some (hd.same s6) fun u9 H7 s7 d7 => ?_⟩
        rw [cut1] at d7
        exact cat_da ((hw.to s6).to s7).some (d6.same s7) d7 (by simp) fun v' H8 s8 d8 => q v' H8 ((s6.trans s7).trans s8) d8
    · refine ⟨v, rfl, ix_at (n := 0) hd rfl fun y hy => ?_⟩
      cases hy
      refine ⟨.str _, rfl, rfl, _, rfl, iteF ?_⟩
      cases neg with
      | true =>
        refine ⟨fun σ' H' => ∃ x3 : Option V, σ' = [some v, some (.bl true), some (.str "at"), x3] ∧ Same H H', ?_, ?_⟩
        · refine ⟨.bl true, rfl, true, rfl, iteT ⟨sz (by simp), fun tW o nW hc hdn => ?_⟩⟩
          have s1 := same_new (o := .frz o (.tup ((["true", "false", "both", "either", "all", "some"] : List Str).map V.str))) nW
          have eW : upd H tW (.frz o (.tup ((["true", "false", "both", "either", "all", "some"] : List Str).map V.str))) tW = some (.frz o (.tup ((["true", "false", "both", "either", "all", "some"] : List Str).map V.str))) := upd_same
          show ∃ z, _
          refine ⟨.str _, rfl, .ref tW, rfl, tW, (["true", "false", "both", "either", "all", "some"] : List Str).map V.str, rfl, .inr (.inl (.inr ⟨o, eW⟩)), rfl, flat_all _, _, rfl, ?_⟩
          rw [if_neg Bool.false_ne_true, inS]
          refine iteF ⟨.str _, rfl, 4, rfl, "not at", rfl, sz (by decide), rfl, _, rfl, ?_⟩
          rw [show decide (V.str (cutS "not at" none (some 4)) = V.str "not ") = true from by decide]
          refine iteT ⟨.str _, rfl, 4, rfl, "not at", rfl, sz (by decide), ?_⟩
          rw [show cutS "not at" (some 4) none = "at" from by decide]
          exact ⟨some (.ref tW), rfl, s1⟩
        rintro σ' H1 ⟨x3, rfl, s1⟩
        refine ⟨.str _, rfl, in_new (l := ["both", "either"]) rfl (by decide) fun H2 s2 => iteF ⟨.str _, rfl, in_new (l := ["all", "some"]) rfl (by decide) fun H3 s3 => iteF ?_⟩⟩
        have s3 := (s1.trans s2).trans s3
        refine ⟨.str _, rfl, sz (by simp), fun p np => ?_⟩
        obtain ⟨s6, d6⟩ := newT (hw.to s3).some (DaAll.cons (.str "at") .nil) np
        generalize upd H3 p _ = H6 at s6 d6 ⊢
        have s6 := s3.trans s6
        refine ⟨v, rfl, 1, rfl, sl_da (hw.to s6).some (hd.same s6) fun u9 H7 s7 d7 => ?_⟩
        rw [cut1] at d7
        exact cat_da ((hw.to s6).to s7).some (d6.same s7) d7 (by simp) fun v' H8 s8 d8 => q v' H8 ((s6.trans s7).trans s8) d8
      | false =>
        refine ⟨fun σ' H' => ∃ x3 : Option V, σ' = [some v, some (.bl false), some (.str "not at"), x3] ∧ Same H H', ?_, ?_⟩
        · exact ⟨.bl false, rfl, false, rfl, iteF ⟨none, rfl, Same.refl _⟩⟩
        rintro σ' H1 ⟨x3, rfl, s1⟩
        refine ⟨.str _, rfl, in_new (l := ["both", "either"]) rfl (by decide) fun H2 s2 => iteF ⟨.str _, rfl, in_new (l := ["all", "some"]) rfl (by decide) fun H3 s3 => iteF ?_⟩⟩
        have s3 := (s1.trans s2).trans s3
        refine ⟨.str _, rfl, sz (by simp), fun p np => ?_⟩
        obtain ⟨s6, d6⟩ := newT (hw.to s3).some (DaAll.cons (.str "not at") .nil) np
        generalize upd H3 p _ = H6 at s6 d6 ⊢
        have s6 := s3.trans s6
        refine ⟨v, rfl, 1, rfl, sl_da (hw.to s6).some (hd.same s6) fun u9 H7 s7 d7 => ?_⟩
        rw [cut1] at d7
        exact cat_da ((hw.to s6).to s7).some (d6.same s7) d7 (by simp) fun v' H8 s8 d8 => q v' H8 ((s6.trans s7).trans s8) d8
    · refine ⟨v, rfl, ix_at (n := 0) hd rfl fun y hy => ?_⟩
      cases hy
      refine ⟨.str _, rfl, rfl, _, rfl, iteF ?_⟩
      cases neg with
      | true =>
        refine ⟨fun σ' H' => ∃ x3 : Option V, σ' = [some v, some (.bl true), some (.str "above"), x3] ∧ Same H H', ?_, ?_⟩
        · refine ⟨.bl true, rfl, true, rfl, iteT ⟨sz (by simp), fun tW o nW hc hdn => ?_⟩⟩
          have s1 := same_new (o := .frz o (.tup ((["true", "false", "both", "either", "all", "some"] : List Str).map V.str))) nW
          have eW : upd H tW (.frz o (.tup ((["true", "false", "both", "either", "all", "some"] : List Str).map V.str))) tW = some (.frz o (.tup ((["true", "false", "both", "either", "all", "some"] : List Str).map V.str))) := upd_same
          show ∃ z, _
          refine ⟨.str _, rfl, .ref tW, rfl, tW, (["true", "false", "both", "either", "all", "some"] : List Str).map V.str, rfl, .inr (.inl (.inr ⟨o, eW⟩)), rfl, flat_all _, _, rfl, ?_⟩
          rw [if_neg Bool.false_ne_true, inS]
          refine iteF ⟨.str _, rfl, 4, rfl, "not above", rfl, sz (by decide), rfl, _, rfl, ?_⟩
          rw [show decide (V.str (cutS "not above" none (some 4)) = V.str "not ") = true from by decide]
          refine iteT ⟨.str _, rfl, 4, rfl, "not above", rfl, sz (by decide), ?_⟩
          rw [show cutS "not above" (some 4) none = "above" from by decide]
          exact ⟨some (.ref tW), rfl, s1⟩
        rintro σ' H1 ⟨x3, rfl, s1⟩
        refine ⟨.str _, rfl, in_new (l := ["both", "either"]) rfl (by decide) fun H2 s2 => iteF ⟨.str _, rfl, in_new (l := ["all", "some"]) rfl (by decide) fun H3 s3 => iteF ?_⟩⟩
        have s3 := (s1.trans s2).trans s3
        refine ⟨.str _, rfl, sz (by simp), fun p np => ?_⟩
        obtain ⟨s6, d6⟩ := newT (hw.to s3).some (DaAll.cons (.str "above") .nil) np
        generalize upd H3 p _ = H6 at s6 d6 ⊢
        have s6 := s3.trans s6
        refine ⟨v, rfl, 1, rfl, sl_da (hw.to s6).some (hd.same s6) fun u9 H7 s7 d7 => ?_⟩
        rw [cut1] at d7
        exact cat_da ((hw.to s6).to s7).some (d6.same s7) d7 (by simp) fun v' H8 s8 d8 => q v' H8 ((s6.trans s7).trans s8) d8
      | false =>
        refine ⟨fun σ' H' => ∃ x3 : Option V, σ' = [some v, some (.bl false), some (.str "not above"), x3] ∧ Same H H', ?_, ?_⟩
        · exact ⟨.bl false, rfl, false, rfl, iteF ⟨none, rfl, Same.refl _⟩⟩
        rintro σ' H1 ⟨x3, rfl, s1⟩
        refine ⟨.str _, rfl, in_new (l := ["both", "either"]) rfl (by decide) fun H2 s2 => iteF ⟨.str _, rfl, in_new (l := ["all", "some"]) rfl (by decide) fun H3 s3 => iteF ?_⟩⟩
        have s3 := (s1.trans s2).trans s3
        refine ⟨.str _, rfl, sz (by simp), fun p np => ?_⟩
        obtain ⟨s6, d6⟩ := newT (hw.to s3).some (DaAll.cons (.str "not above") .nil) np
        generalize upd H3 p _ = H6 at s6 d6 ⊢
        have s6 := s3.trans s6
        refine ⟨v, rfl, 1, rfl, sl_da (hw.to s6).some (hd.same s6) fun u9 H7 s7 d7 => ?_⟩
        rw [cut1] at d7
        exact cat_da ((hw.to s6).to s7).some (d6.same s7) d7 (by simp) fun v' H8 s8 d8 => q v' H8 ((s6.trans s7).trans s8) d8
theorem led_all (D : Def K mg "_law_led" sLed ["_law_said", "_law_is_not"]) : ∀ N : Nat, Cal P w K mg base "_law_led" (N + 1) ["_law_said", "_law_is_not"] (spSPush N)
  | 0 => by
    have no : ∀ vs H Q E, ¬ spSPush 0 vs H Q E := fun vs H Q E h => by
      obtain ⟨a, v, s, neg, _, _, _, _, h1, _⟩ := h
      have := s.depth_pos
      omega
    obtain ⟨f, fd, F, m, b⟩ := D
    exact ⟨f, fd, ⟨fun vs H Q E h => absurd h (no vs H Q E), fun A out s H g us vs Q E _ _ _ _ h => absurd h (no vs H Q E)⟩, m, F.kp, b, fdAt F⟩
  | N + 1 => led_step D (led_all D N)
end
end K44

set_option Elab.async false
set_option linter.all false
set_option maxRecDepth 100000
set_option maxHeartbeats 8000000
local macro_rules | `(tactic| walk_at "rd") => `(tactic| dsimp only [Evl.tCut, L2.tSeq, L2.tNext, L2.tRet, L2.tRetN, L2.tAsg, L2.gName, L2.tIfS, L2.tDrop, L2.tCons, L2.tNil, L2.tC, L2.tVar, L2.tCB, L2.tAndV, L2.tOrV, L2.tNotV, L2.tB, L2.tTest, L2.tOp, L2.tUn, L2.tNot, L2.tAnd, L2.tOr, L2.tIf, L2.tCall, L2.tTup, L2.tLst, L2.tNotT, L2.tYes, L2.gTup, L2.gCons, L2.gNil, L2.gSub, L2.tBM0, L2.tBM, L2.tWhile, L2.tFor, L2.iRng1, L2.iRng2, L2.tAugS, Tw.iEnumT, L2.tCKw, L2.tAug, L2.ipI, RT.iRevA, L2.tPar, L2.tPar3, L2.tSl, L2.tNoPart, L2.tPart, Tw.tRevT, Tw.tFput])
namespace K44
open PySem PySem.Spec PyProof.Rows L2 Tw
open K44R (polyD okP okR exch lng T numAt nums co g rw' trimI trimP col Ro RoA Po Pr Bd RelA Stable stable_ro stable_eq lc_relT lc_relL wipeJ Kt kt_upd max_lng RoA.kt Kt.of RelA.eq_map lng_bd)
theorem _root_.PySem.Reads.keep_le {h : Heap} {p : Addr} {d : PyData} {as : List Addr} {n : Nat} {bs : List Addr} (r : Reads h (.ref p) d as) (hb : ReadAtMost h n bs) (hn : n ≤ d.depth) : ReadAtMost h d.depth (p :: bs) := ReadAtMost.cons r hn hb
section
variable {X : Cx} {pins : List (Addr × Obj)} {σ : L2.St} {H : Hp} {s : Shared} {a : Addr}
theorem dct_at {p : Addr} (I : L2.Inv X pins σ H s) (h : H p = some (.dK [])) : ∃ (ob : Obj) (es : Array DictEntry) (ep : Nat), s.heap.get? p = some ob ∧ ob.cls = .type "dict" ∧ ob.data = .dict es ep ∧ es.toList = [] ∧ (p == sysModules) = false := by
  obtain ⟨_, hsm, vs, kv, ob, es, ep, e1, e2, e3, _, e5, _⟩ := dk_of I.hok h
  cases kv
  refine ⟨ob, es, ep, e1, e2.1, e3, ?_, hsm⟩
  cases hz : es.toList with
  | nil => rfl
  | cons x r => rw [hz] at e5; cases e5
mutual
theorem rk_da (I : L2.Inv X pins σ H s) : ∀ {v : V} {d : PyData} {u : Value}, Da a H v d → L2.RelV v u → PyData.showable d = true → d.shown.length ≤ sizeLine →
    (∃ as, Reads s.heap u d as) ∧ ∃ bs, ReadAtMost s.heap d.depth bs ∧ ReprK X.prog X.w bs s.heap d.depth u d.shown
  | _, _, _, .non, r, _, _ => by cases r; exact ⟨⟨_, Reads.none⟩, [], (fun _ z => nomatch z), .of_is ReprIs.none _ _ _⟩
  | _, _, _, .bl b, r, _, _ => by cases r; exact ⟨⟨_, Reads.bool b⟩, [], (fun _ z => nomatch z), .of_is (ReprIs.bool b) _ _ _⟩
  | _, _, _, .int i, r, g, _ => by
    obtain ⟨t, rfl⟩ := r
    rw [PyData.showable] at g
    exact ⟨⟨_, Reads.int i t⟩, [], (fun _ z => nomatch z), .of_is (ReprIs.int t (of_decide_eq_true g)) _ _ _⟩
  | _, _, _, .str x, r, _, hz => by
    obtain ⟨t, rfl⟩ := r
    exact ⟨⟨_, Reads.str x t⟩, [], (fun _ z => nomatch z), .of_is (ReprIs.str x t hz) _ _ _⟩
  | _, _, _, .lst (p := p) (ds := ds) n h t, r, g, hz => by
    cases r
    rw [PyData.showable] at g
    rw [PyData.shown] at hz
    obtain ⟨its, rv, ⟨o, m, ho, hc, _, hd⟩, _⟩ := I.list (SqL.of h)
    obtain ⟨⟨as, ra⟩, bs, hb, hk⟩ := rk_das I t rv g fun y hy => Nat.le_trans (listText_mem_le hy) hz
    have rd := Reads.list ho hc hd ra
    have hn := not_mem_of_deeper rd (by rw [PyData.depth]; omega) hb
    refine ⟨⟨_, rd⟩, p :: bs, rd.keep_le hb (by rw [PyData.depth]; omega), ?_⟩
    rw [PyData.depth, PyData.shown]
    cases its with
    | nil =>
      cases ra
      rw [PyData.shownAll, listText_nil]
      exact ReprK.listEmpty ho hc hd
    | cons x l => exact ReprK.list ho hc hd hn (by simpa using hk.length_eq) fun i y e => hk.item i y (by simpa using e)
  | _, _, _, .tup (p := p) (ds := ds) n h t, r, g, hz => by
    cases r
    rw [PyData.showable] at g
    rw [PyData.shown] at hz
    obtain ⟨its, rv, ⟨o, ho, hc, m, hd⟩, _⟩ := I.tuple (SqT.of h)
    obtain ⟨⟨as, ra⟩, bs, hb, hk⟩ := rk_das I t rv g fun y hy => Nat.le_trans (tupleText_mem_le hy) hz
    have rd := Reads.tuple ho hc hd ra
    have hn := not_mem_of_deeper rd (by rw [PyData.depth]; omega) hb
    refine ⟨⟨_, rd⟩, p :: bs, rd.keep_le hb (by rw [PyData.depth]; omega), ?_⟩
    rw [PyData.depth, PyData.shown]
    exact ReprK.tuple ho hc hd hn hk
  | _, _, _, .dct (p := p) n h, r, _, _ => by
    cases r
    obtain ⟨ob, es, ep, e1, e2, e3, e6, hsm⟩ := dct_at I h
    have rd : Reads s.heap (.ref p) (.dict []) _ := Reads.dict (kvs := []) (as := []) (bs := []) e1 e2 e3 (by rw [e6]; exact .nil) (by rw [e6]; exact .nil)
    refine ⟨⟨_, rd⟩, [p], rd.keep_le (n := 0) (bs := []) (fun _ z => nomatch z) (Nat.zero_le _), ?_⟩
    exact ReprK.dict e1 e2 e3 hsm (fun z => nomatch z) (by rw [e6]; exact .nil)
theorem rk_das (I : L2.Inv X pins σ H s) : ∀ {vs : List V} {ds : List PyData} {us : List Value}, DaAll a H vs ds → Vals vs us → PyData.showableAll ds = true → (∀ t ∈ PyData.shownAll ds, t.length ≤ sizeLine) →
    (∃ as, ReadsAll s.heap us ds as) ∧ ∃ bs, ReadAtMost s.heap (PyData.depthAll ds) bs ∧ ReprAllK X.prog X.w bs s.heap (PyData.depthAll ds) us (PyData.shownAll ds)
  | _, _, _, .nil, r, _, _ => by cases r; exact ⟨⟨_, .nil⟩, [], (fun _ z => nomatch z), .nil⟩
  | _, _, _, .cons h t, r, g, hz => by
    cases r with
    | cons r1 r2 =>
      rw [PyData.showableAll, Bool.and_eq_true] at g
      rw [PyData.shownAll] at hz
      obtain ⟨⟨as, q1⟩, b1, m1, k1⟩ := rk_da I h r1 g.1 (hz _ (by simp))
      obtain ⟨⟨cs, q2⟩, b2, m2, k2⟩ := rk_das I t r2 g.2 fun y hy => hz y (by simp [hy])
      rw [PyData.depthAll, PyData.shownAll]
      exact ⟨⟨_, ReadsAll.cons q1 q2⟩, b1 ++ b2, (m1.mono (Nat.le_max_left _ _)).append (m2.mono (Nat.le_max_right _ _)),
        .cons ((k1.more fun b z => List.mem_append_left _ z).level_le (Nat.le_max_left _ _)) (k2.more_le (fun b z => List.mem_append_right _ z) (Nat.le_max_right _ _))⟩
end
theorem repr_da (I : L2.Inv X pins σ H s) {v : V} {d : PyData} {u : Value} {Q : Value → Shared → Prop} {A : Around} {E : Value → Shared → Prop} (h : Da a H v d) (r : L2.RelV v u) (g : PyData.showable d = true) (hz : d.shown.length ≤ sizeLine) (hq : A.guards = some []) (hu : A.units + (d.depth + 1) < cLine)
    (q : ∀ h' t k, (∀ b o, s.heap.get? b = some o → h'.get? b = some o) → Q (.str d.shown t) { s with heap := h', toks := k }) : wpAny (model X.prog X.w) A (call (.builtin "repr") [u]) Q E s := by
  have hu2 : A.in1.units + d.depth < cLine := by show A.units + 1 + d.depth < cLine; omega
  cases h with
  | non => cases r; exact PySem.P.repr_of_none (q s.heap _ _ fun _ _ e => e)
  | bl b => cases r; exact PySem.P.repr_of_bool (by cases b <;> exact q s.heap _ _ fun _ _ e => e)
  | int i => obtain ⟨t, rfl⟩ := r; exact PySem.P.repr_of_int (by rw [PyData.showable] at g; exact of_decide_eq_true g) (q s.heap _ _ fun _ _ e => e)
  | str x => obtain ⟨t, rfl⟩ := r; exact PySem.P.repr_of_str (q s.heap _ _ fun _ _ e => e) hz
  | @lst p xs ds n h t =>
    cases r
    rw [PyData.showable] at g
    rw [PyData.shown] at hz q
    rw [PyData.depth] at hu2
    obtain ⟨its, rv, ⟨o, m, ho, hc, _, hd⟩, _⟩ := I.list (SqL.of h)
    obtain ⟨⟨as, ra⟩, bs, hb, hk⟩ := rk_das I t rv g fun y hy => Nat.le_trans (listText_mem_le hy) hz
    have hn := not_mem_of_deeper (Reads.list ho hc hd ra) (by rw [PyData.depth]; omega) hb
    have ty : s.TypeIs (.ref p) "list" := ⟨o, ho, hc⟩
    refine call_repr_slot (by omega) ty F.slot_list_repr.toG ?_
    cases its with
    | nil =>
      cases ra
      rw [PyData.shownAll, listText_nil] at q
      exact call_list_repr_empty ty ho hd ⟨_, _, rfl, q s.heap _ _ fun _ _ e => e⟩
    | cons x l => exact call_list_reprK ho hc hd hn (by simpa using hk.length_eq) (fun i y e => hk.item i y (by simpa using e)) hq (fun b _ => Clear.nil b) hu2 (fun _ _ e => e) (fun h' w k z => ⟨_, _, rfl, q h' w k z⟩) hz
  | @tup p xs ds n h t =>
    cases r
    rw [PyData.showable] at g
    rw [PyData.shown] at hz q
    rw [PyData.depth] at hu2
    obtain ⟨its, rv, ⟨o, ho, hc, m, hd⟩, _⟩ := I.tuple (SqT.of h)
    obtain ⟨⟨as, ra⟩, bs, hb, hk⟩ := rk_das I t rv g fun y hy => Nat.le_trans (tupleText_mem_le hy) hz
    have hn := not_mem_of_deeper (Reads.tuple ho hc hd ra) (by rw [PyData.depth]; omega) hb
    exact call_repr_slot (by omega) ⟨o, ho, hc⟩ F.slot_tuple_repr (call_tuple_reprK ho hc hd hn hk hq (fun b _ => Clear.nil b) hu2 (fun _ _ e => e) (fun h' w k z => ⟨_, _, rfl, q h' w k z⟩) hz)
  | @dct p n h =>
    cases r
    obtain ⟨ob, es, ep, e1, e2, e3, e6, hsm⟩ := dct_at I h
    exact call_repr_slot (by omega) ⟨ob, e1, e2⟩ F.slot_dict_repr (call_dict_reprK (as := []) (d := 0) (ps := []) e1 e2 e3 hsm (fun z => nomatch z) (by rw [e6]; exact .nil) hq (fun b _ => Clear.nil b) hu2 (fun _ _ e => e) (fun h' w k z => ⟨_, _, rfl, q h' w k z⟩) hz)
end
/-- repr of any datum -/
def rShowD : List V → Hp → VK → Prop := fun xs H Q => ∃ (a : Addr) (v : V) (d : PyData) (w : Nat), xs = [v] ∧ Da a H v d ∧ Ls B2 w d ∧ w ≤ 100000 ∧ dep d ≤ 40 ∧ Q (.str d.shown) H
theorem call_showD {X : Cx} (hq : Qt X.A) (hu : X.A.units + 70 < cLine) : CallR X (.builtin "repr") rShowD := by
  intro pins s σ H xs us Q I r h
  obtain ⟨a, v, d, w, rfl, hd, hl, hw, hdep, q⟩ := h
  obtain ⟨u, rfl, rx⟩ := vals1 r
  have hdp := depth_dep hl.1
  exact repr_da I hd rx (lf_show hl.1).1 (shown_fit hl hw) hq (by omega) fun h' t k keep => ⟨.str d.shown, H, I.kept keep, ⟨_, rfl⟩, q⟩
/-! sizes -/
theorem lf_mk {b : Nat} {p : List (List Int)} (h : ∀ r ∈ p, ∀ c ∈ r, c.natAbs ≤ b) : lf b (polyD p) = true := by
  show lf b (.tuple _) = true
  rw [lf]
  refine lf1_of fun e m => ?_
  obtain ⟨r, hr, rfl⟩ := List.mem_map.mp m
  show lf b (.tuple _) = true
  rw [lf]
  refine lf1_of fun e m => ?_
  obtain ⟨c, hc, rfl⟩ := List.mem_map.mp m
  rw [lf]
  exact decide_eq_true (h r hr c hc)
theorem nd1_le {w : Nat} : ∀ {ds : List PyData}, (∀ d ∈ ds, nd d ≤ w) → nd1 ds ≤ w * ds.length
  | [], _ => Nat.zero_le _
  | d :: ds, h => by
    have := h d (by simp)
    have := nd1_le (ds := ds) fun e m => h e (by simp [m])
    rw [nd1, List.length_cons, Nat.mul_add]; omega
theorem nd_small {d : PyData} (h : smallB d = true) : nd d ≤ 31 ∧ wid d ≤ 10 := by
  obtain ⟨h1, _, h3, h4⟩ := small_un h
  rw [h1]
  have nr : ∀ r : List Int, nd1 (r.map PyData.int) = r.length := fun r => by
    induction r with
    | nil => rfl
    | cons i l ih => rw [List.map_cons, nd1, ih, List.length_cons, show nd (.int i) = 1 from by rw [nd] <;> nofun]; omega
  have hr : ∀ e ∈ (unD d).map K44R.rowD, nd e ≤ 6 := fun e he => by
    obtain ⟨r, hr, rfl⟩ := List.mem_map.mp he
    show nd (.tuple _) ≤ 6
    rw [nd, nr]
    have := h4 r hr
    omega
  have h5 := nd1_le hr
  rw [List.length_map] at h5
  refine ⟨by show nd (.tuple _) ≤ 31; rw [nd]; omega, ?_⟩
  have hs := K44R.sm_poly (n := 10) (b := ((unD d).flatMap fun r => r.map Int.natAbs).sum) (p := unD d) ?_
  · exact hs.2
  · refine ⟨by omega, fun r hr => ⟨by have := h4 r hr; omega, fun c hc => ?_⟩⟩
    have key : ∀ (l : List Nat) (x : Nat), x ∈ l → x ≤ l.sum := fun l => by
      induction l with
      | nil => intro x m; cases m
      | cons a l ih =>
        intro x m
        rw [List.sum_cons]
        rcases List.mem_cons.mp m with rfl | m
        · omega
        · have := ih x m; omega
    exact key _ _ (List.mem_flatMap.mpr ⟨r, hr, List.mem_map_of_mem hc⟩)
theorem rel_ok : ∀ w ∈ rels, nd (.str w) ≤ 11 ∧ lf B2 (.str w) = true := by decide
/-- a saying's size -/
theorem say_size : ∀ {s : Say}, s.ok → (∀ q ∈ s.leaves, lf B2 q = true) → lf B2 s.d = true ∧ nd s.d ≤ 50 * s.sz ∧ dep s.d ≤ s.depth + 2 ∧ wid s.d ≤ 10
  | .tt, _, _ => ⟨by decide, by decide, by decide, by decide⟩
  | .ff, _, _ => ⟨by decide, by decide, by decide, by decide⟩
  | .nn s, h, l => by
    obtain ⟨a, b, c, d⟩ := say_size (s := s) h l
    have e : lf B2 (.str "not") = true ∧ nd (.str "not") = 4 ∧ dep (.str "not") = 0 ∧ wid (.str "not") = 0 := by decide
    obtain ⟨e1, e2, e3, e4⟩ := e
    refine ⟨by rw [Say.d, lf, lf1, lf1, lf1, e1, a]; rfl, by rw [Say.d, nd, nd1, nd1, nd1, e2]; show _ ≤ 50 * (1 + s.sz); omega, by rw [Say.d, dep, dep1, dep1, dep1, e3, depth_nn]; omega, by rw [Say.d, wid, wid1, wid1, wid1, e4]; simp; omega⟩
  | .bo bb s t, h, l => by
    obtain ⟨a, b, c, d⟩ := say_size (s := s) h.1 fun q m => l q (List.mem_append_left _ m)
    obtain ⟨a', b', c', d'⟩ := say_size (s := t) h.2 fun q m => l q (List.mem_append_right _ m)
    have e : ∀ w : Str, w = "both" ∨ w = "either" → lf B2 (.str w) = true ∧ nd (.str w) ≤ 7 ∧ dep (.str w) = 0 ∧ wid (.str w) = 0 := fun w h => by rcases h with rfl | rfl <;> decide
    obtain ⟨e1, e2, e3, e4⟩ := e (if bb then "both" else "either") (by cases bb <;> simp)
    refine ⟨by rw [Say.d, lf, lf1, lf1, lf1, lf1, e1, a, a']; rfl, by rw [Say.d, nd, nd1, nd1, nd1, nd1]; show _ ≤ 50 * (1 + s.sz + t.sz); omega, by rw [Say.d, dep, dep1, dep1, dep1, dep1, e3, depth_bo]; omega, by rw [Say.d, wid, wid1, wid1, wid1, wid1, e4]; simp; omega⟩
  | .qu al x s, h, l => by
    obtain ⟨a, b, c, d⟩ := say_size (s := s) h l
    have e : ∀ w : Str, w = "all" ∨ w = "some" → lf B2 (.str w) = true ∧ nd (.str w) ≤ 5 ∧ dep (.str w) = 0 ∧ wid (.str w) = 0 := fun w h => by rcases h with rfl | rfl <;> decide
    have f : ∀ w : Str, w = "x" ∨ w = "y" → lf B2 (.str w) = true ∧ nd (.str w) ≤ 2 ∧ dep (.str w) = 0 ∧ wid (.str w) = 0 := fun w h => by rcases h with rfl | rfl <;> decide
    obtain ⟨e1, e2, e3, e4⟩ := e (if al then "all" else "some") (by cases al <;> simp)
    obtain ⟨f1, f2, f3, f4⟩ := f (if x then "x" else "y") (by cases x <;> simp)
    refine ⟨by rw [Say.d, lf, lf1, lf1, lf1, lf1, e1, f1, a]; rfl, by rw [Say.d, nd, nd1, nd1, nd1, nd1]; show _ ≤ 50 * (1 + s.sz); omega, by rw [Say.d, dep, dep1, dep1, dep1, dep1, e3, f3, depth_qu]; omega, by rw [Say.d, wid, wid1, wid1, wid1, wid1, e4, f4]; simp; omega⟩
  | .re w p, h, l => by
    obtain ⟨e2, e1⟩ := rel_ok w h.1
    obtain ⟨n1, n2⟩ := nd_small h.2
    have lp := l p (List.mem_singleton.mpr rfl)
    have dp := (small_k h.2).2.1
    have e3 : dep (.str w) = 0 := by rw [dep] <;> nofun
    have e4 : wid (.str w) = 0 := by rw [wid] <;> nofun
    refine ⟨by rw [Say.d, lf, lf1, lf1, lf1, e1, lp]; rfl, by rw [Say.d, nd, nd1, nd1, nd1]; show _ ≤ 50 * 1; omega, by rw [Say.d, dep, dep1, dep1, dep1, e3]; show _ ≤ 1 + 2; omega, by rw [Say.d, wid, wid1, wid1, wid1, e4]; simp; omega⟩
theorem ex_sz : ∀ s : Say, s.ex.sz = s.sz
  | .tt => rfl
  | .ff => rfl
  | .nn s => by show 1 + s.ex.sz = 1 + s.sz; rw [ex_sz s]
  | .bo _ s t => by show 1 + s.ex.sz + t.ex.sz = 1 + s.sz + t.sz; rw [ex_sz s, ex_sz t]
  | .qu _ _ s => by show 1 + s.ex.sz = 1 + s.sz; rw [ex_sz s]
  | .re _ _ => rfl
theorem put_sz (x : Bool) (n m : Int) : ∀ s : Say, (s.put x n m).sz = s.sz ∧ (s.put x n m).depth = s.depth
  | .tt => ⟨rfl, rfl⟩
  | .ff => ⟨rfl, rfl⟩
  | .nn s => by obtain ⟨a, b⟩ := put_sz x n m s; exact ⟨by show 1 + (s.put x n m).sz = 1 + s.sz; rw [a], by show 1 + (s.put x n m).depth = 1 + s.depth; rw [b]⟩
  | .bo _ s t => by
    obtain ⟨a, b⟩ := put_sz x n m s
    obtain ⟨c, d⟩ := put_sz x n m t
    exact ⟨by show 1 + (s.put x n m).sz + (t.put x n m).sz = 1 + s.sz + t.sz; rw [a, c], by show 1 + max (s.put x n m).depth (t.put x n m).depth = 1 + max s.depth t.depth; rw [b, d]⟩
  | .qu al y s => by
    obtain ⟨a, b⟩ := put_sz x n m s
    show (if y = x then Say.qu al y s else Say.qu al y (s.put x n m)).sz = _ ∧ (if y = x then Say.qu al y s else Say.qu al y (s.put x n m)).depth = _
    split
    · exact ⟨rfl, rfl⟩
    · exact ⟨by show 1 + (s.put x n m).sz = 1 + s.sz; rw [a], by show 1 + (s.put x n m).depth = 1 + s.depth; rw [b]⟩
  | .re _ _ => ⟨rfl, rfl⟩
theorem push_sz : ∀ (s : Say) (neg : Bool), (s.push neg).sz ≤ s.sz
  | .tt, neg => by cases neg <;> exact Nat.le_refl _
  | .ff, neg => by cases neg <;> exact Nat.le_refl _
  | .nn s, neg => by have := push_sz s (!neg); show (s.push (!neg)).sz ≤ 1 + s.sz; omega
  | .bo _ s t, neg => by have := push_sz s neg; have := push_sz t neg; show 1 + (s.push neg).sz + (t.push neg).sz ≤ 1 + s.sz + t.sz; omega
  | .qu _ _ s, neg => by have := push_sz s neg; show 1 + (s.push neg).sz ≤ 1 + s.sz; omega
  | .re _ _, neg => Nat.le_refl _
theorem put_leaves (x : Bool) (n m : Int) : ∀ (s : Say) (q : PyData), q ∈ (s.put x n m).leaves → q ∈ s.leaves ∨ ∃ p ∈ s.leaves, q = putD x n m p
  | .tt, q, h => nomatch h
  | .ff, q, h => nomatch h
  | .nn s, q, h => put_leaves x n m s q h
  | .bo _ s t, q, h => by
    rcases List.mem_append.mp h with h | h
    · rcases put_leaves x n m s q h with g | ⟨p, g, e⟩
      · exact .inl (List.mem_append_left _ g)
      · exact .inr ⟨p, List.mem_append_left _ g, e⟩
    · rcases put_leaves x n m t q h with g | ⟨p, g, e⟩
      · exact .inl (List.mem_append_right _ g)
      · exact .inr ⟨p, List.mem_append_right _ g, e⟩
  | .qu al y s, q, h => by
    have h : q ∈ (if y = x then Say.qu al y s else Say.qu al y (s.put x n m)).leaves := h
    split at h
    · exact .inl h
    · exact put_leaves x n m s q h
  | .re _ p, q, h => .inr ⟨p, List.mem_singleton.mpr rfl, List.mem_singleton.mp h⟩
theorem put_num {p : List (List Int)} {n m : Int} (hp : p.length ≤ 5 ∧ ∀ r ∈ p, r.length ≤ 5 ∧ ∀ c ∈ r, c.natAbs ≤ LB) (hn : n.natAbs < 2 ^ 24) (m0 : 0 < m) (m1 : m < 2 ^ 24) : ∀ r ∈ putX p n m, ∀ c ∈ r, c.natAbs ≤ 2 ^ 195 := fun r hr c hc => by
  have hr := K44R.trimBy_mem _ _ hr
  obtain ⟨v, hv, rfl⟩ := List.mem_map.mp hr
  have hv : v ∈ p.map (numAt n m (lng p)) := hv
  obtain ⟨s, hs, rfl⟩ := List.mem_map.mp hv
  split at hc
  · cases hc
  rw [List.mem_singleton.mp hc]
  obtain ⟨s5, sc⟩ := hp.2 s hs
  have t1 := T_leW (n := n) (m := m) (X := 2 ^ 24) (B := LB) (by omega) (by omega) (by decide) s sc
  have l5 : lng p ≤ 5 := lng_bd fun r hr => (hp.2 r hr).1
  unfold K44R.numAt
  rw [Int.natAbs_mul, Int.natAbs_pow]
  have t2 : m.natAbs ^ (lng p - s.length) ≤ (2 * 2 ^ 24) ^ (lng p - s.length) := Nat.pow_le_pow_left (by omega) _
  have t3 := Nat.mul_le_mul t1 t2
  rw [Nat.mul_assoc, ← Nat.pow_add] at t3
  have t4 : (2 * 2 ^ 24) ^ (s.length + (lng p - s.length)) ≤ (2 * 2 ^ 24) ^ 5 := Nat.pow_le_pow_right (by decide) (by have := K44R.lng_le hs; omega)
  refine Nat.le_trans t3 (Nat.le_trans (Nat.mul_le_mul_left LB t4) ?_)
  decide
end K44

set_option Elab.async false
set_option linter.all false
set_option maxRecDepth 100000
set_option maxHeartbeats 8000000
local macro_rules | `(tactic| walk_at "rd") => `(tactic| dsimp only [Evl.tCut, L2.tSeq, L2.tNext, L2.tRet, L2.tRetN, L2.tAsg, L2.gName, L2.tIfS, L2.tDrop, L2.tCons, L2.tNil, L2.tC, L2.tVar, L2.tCB, L2.tAndV, L2.tOrV, L2.tNotV, L2.tB, L2.tTest, L2.tOp, L2.tUn, L2.tNot, L2.tAnd, L2.tOr, L2.tIf, L2.tCall, L2.tTup, L2.tLst, L2.tNotT, L2.tYes, L2.gTup, L2.gCons, L2.gNil, L2.gSub, L2.tBM0, L2.tBM, L2.tWhile, L2.tFor, L2.iRng1, L2.iRng2, L2.tAugS, Tw.iEnumT, L2.tCKw, L2.tAug, L2.ipI, RT.iRevA, L2.tPar, L2.tPar3, L2.tSl, L2.tNoPart, L2.tPart, Tw.tRevT, Tw.tFput])
namespace K44
open PySem PySem.Spec PyProof.Rows L2 Tw
open K44R (polyD okP okR exch lng T numAt nums co g rw' trimI trimP col Ro RoA Po Pr Bd RelA Stable stable_ro stable_eq lc_relT lc_relL wipeJ Kt kt_upd max_lng RoA.kt Kt.of RelA.eq_map lng_bd)
theorem pick_num {a : Addr} {H : Hp} {l : List Int} {R : VK} {E : XK} (hw : We a H) (h0 : 0 < l.length) (h1 : l.length ≤ 20) (q : ∀ i H', i ∈ l → Kp a H H' → We a H' → R (.int i) H') :
    ∃ a' : Addr, H a' ≠ none ∧ ∀ v H1, Same H H1 → Da a' H1 v (.tuple (l.map PyData.int)) → spPick [.ref a, v] H1 R E := by
  refine ⟨a, hw.some, fun v H1 s1 dv => ?_⟩
  obtain ⟨p, xs, rfl, np, hp, hx⟩ := da_tup dv
  have lx := hx.len
  rw [List.length_map] at lx
  refine ⟨a, p, xs, rfl, hw.to s1, np, .inl hp, fun z => by rw [z] at lx; simp at lx; omega, by omega, fun i x H2 hi k2 w2 => ?_⟩
  obtain ⟨d, e1, e2⟩ := hx.get hi
  obtain ⟨n, hn, rfl⟩ := List.mem_map.mp (List.mem_of_getElem? e1)
  cases e2
  exact q n H2 hn ((Kp.of s1).trans k2) w2
theorem say_sm {s : Say} (h : s.ok) : Sm (dep s.d) 1000 s.d := by
  have key : ∀ {s : Say}, s.ok → wid s.d ≤ 10 := fun {s} h => by
    induction s with
    | tt => decide
    | ff => decide
    | nn s ih =>
      have := ih h
      have e : wid (.str "not") = 0 := by decide
      rw [Say.d, wid, wid1, wid1, wid1, e]; simp; omega
    | bo b s t ih1 ih2 =>
      have := ih1 h.1
      have := ih2 h.2
      have e : ∀ w : Str, wid (.str w) = 0 := fun w => by rw [wid] <;> nofun
      rw [Say.d, wid, wid1, wid1, wid1, wid1, e]; simp; omega
    | qu al x s ih =>
      have := ih h
      have e : ∀ w : Str, wid (.str w) = 0 := fun w => by rw [wid] <;> nofun
      rw [Say.d, wid, wid1, wid1, wid1, wid1, e, e]; simp; omega
    | re w p =>
      have := (nd_small h.2).2
      have e : ∀ w : Str, wid (.str w) = 0 := fun w => by rw [wid] <;> nofun
      rw [Say.d, wid, wid1, wid1, wid1, e]; simp; omega
  exact ⟨Nat.le_refl _, Nat.le_trans (key h) (by decide)⟩
theorem say_lf : ∀ {s : Say}, s.ok → (∀ q ∈ s.leaves, lf LB q = true) → lf LB s.d = true
  | .tt, _, _ => by decide
  | .ff, _, _ => by decide
  | .nn s, h, l => by
    have e : lf LB (.str "not") = true := by decide
    rw [Say.d, lf, lf1, lf1, lf1, e, say_lf (s := s) h l]; rfl
  | .bo b s t, h, l => by
    have e : ∀ b : Bool, lf LB (.str (if b then "both" else "either")) = true := by decide
    rw [Say.d, lf, lf1, lf1, lf1, lf1, e b, say_lf (s := s) h.1 fun q m => l q (List.mem_append_left _ m), say_lf (s := t) h.2 fun q m => l q (List.mem_append_right _ m)]; rfl
  | .qu al x s, h, l => by
    have e : ∀ b : Bool, lf LB (.str (if b then "all" else "some")) = true := by decide
    have f : ∀ b : Bool, lf LB (.str (if b then "x" else "y")) = true := by decide
    rw [Say.d, lf, lf1, lf1, lf1, lf1, e al, f x, say_lf (s := s) h l]; rfl
  | .re w p, h, l => by
    have e : ∀ w ∈ rels, lf LB (.str w) = true := by decide
    rw [Say.d, lf, lf1, lf1, lf1, e w h.1, l p (List.mem_singleton.mpr rfl)]; rfl
/-- what can be written out -/
def Sho (s : Say) : Prop := s.ok ∧ (∀ q ∈ s.leaves, lf B2 q = true) ∧ s.sz ≤ 100 ∧ s.depth ≤ 12
theorem Sho.rd {a : Addr} {H : Hp} {v : V} {s : Say} {Q : VK} (h : Sho s) (d : Da a H v s.d) (q : Q (.str s.d.shown) H) : rShowD [v] H Q := by
  obtain ⟨h1, h2, h3, h4⟩ := h
  obtain ⟨g1, g2, g3, _⟩ := say_size h1 h2
  exact ⟨a, v, s.d, 5000, rfl, d, ⟨g1, by omega⟩, by decide, by omega, q⟩
theorem lf_b2 {d : PyData} {b : Nat} (h : lf b d = true) (hb : b ≤ B2) : lf B2 d = true := lf_up hb h
def spRight : Sp := fun vs H Q _ => ∃ a, vs = [.ref a] ∧ We a H ∧ ∀ H', Kp a H H' → Q (.bl true) H'
section
variable {P : Program} {w : World} {K : PySem.W.Frag} {mg : Str → Option Value} {base : Heap}
theorem scRight : FnScope ["_law_well_here", "_law_some", "_law_lap", "_law_said", "_law_letter", "_law_far", "_law_top", "_law_spot", "_law_shown", "_law_back", "_law_plain"] ["_law_well_here"] (defScope sRight) := ⟨rfl, rfl, rfl, by decide +kernel, rfl, by decide +kernel, by decide +kernel⟩
theorem ok_right (D : Def K mg "_law_right" sRight ["_law_well_here"]) (nb : Nb mg) (c1 : Cal P w K mg base "_law_draw" 1 ["_law_well_here", "_law_many"] spDraw) (cP : Cal P w K mg base "_law_pick" 2 ["_law_well_here", "_law_some"] spPick) (cY : Cal P w K mg base "_law_poly" 3 ["_law_well_here"] spLPoly)
    (cMd : Cal P w K mg base "_law_made" 14 ["_law_well_here", "_law_some", "_law_deep"] (spMade 10)) (cLn : Cal P w K mg base "_law_lean" 2 ["_law_top", "_law_low"] K44R.spLean) (cEx : Cal P w K mg base "exchanged" 18 ["saying"] spExchd) (cSw : Cal P w K mg base "_law_swapped" 13 ["_law_said"] (spSwap 10))
    (cPF : Cal P w K mg base "put_for" 18 ["saying", "letter", "fraction"] spPutFor) (cFi : Cal P w K mg base "_law_filled" 13 ["_law_said", "_law_letter", "_law_spot"] (spSPut 10)) (cPu : Cal P w K mg base "pushed" 18 ["saying"] spPushd) (cLe : Cal P w K mg base "_law_led" 11 ["_law_said", "_law_is_not"] (spSPush 10)) (cDo : Cal P w K mg base "depth_of" 18 ["saying"] spDepthOf) :
    CalG P w K mg base "_law_right" 19 ["_law_well_here"] spRight := by
  refine D.okG scRight (fun vs H Q E h => ?_) (fun f cdv A out s H vs Q E hq hr h => ?_)
  · obtain ⟨a, rfl, _⟩ := h; rfl
  obtain ⟨a, rfl, hw, q⟩ := h
  have hu70 : (A.deeper (envOfC "_law_right" (defScope sRight) s.heap.objs.size f cdv)).units + 70 < cLine := by have := hr.un; omega
  refine ⟨_, (pss_cons (ps_set (i := 1) scRight.nd rfl (Or.inl rfl) (pe_lst pa_nil))
    (pss_cons (ps_for PassesOwn.never rfl (pi_range1 (by rfl) nb.rng (pa_cons (pe_cal cP hr (by omega) (by rfl) (pa_cons (pv 0) (pa_cons (pe_lit _ (d := .tuple (([2, 1, 3, 8] : List Int).map PyData.int)) (by rfl)) pa_nil))) pa_nil)) (pg_name (i := 2) scRight.nd rfl (Or.inl rfl)) (pss_one (ps_expr (pe_bm PySem.F.plainAttrs_list PySem.F.slot_list_append PySem.F.type_list_append mt_append (pv 1) (pa_cons (pe_cal cY hr (by omega) (by rfl) (pa_cons (pv 0) pa_nil)) pa_nil)))))
    (pss_cons (ps_par (i := 3) (j := 4) rfl scRight.nd rfl rfl (by decide) rfl rfl (pa_cons (pe_cal cMd hr (by omega) (by rfl) (pa_cons (pv 0) (pa_cons (pv 1) (pa_cons (pe_cal cP hr (by omega) (by rfl) (pa_cons (pv 0) (pa_cons (pe_lit _ (d := .tuple (([3, 1, 4, 6, 2, 10, 5, 8] : List Int).map PyData.int)) (by rfl)) pa_nil))) pa_nil)))) (pa_cons (pe_cal cP hr (by omega) (by rfl) (pa_cons (pv 0) (pa_cons (pe_lit _ (d := .tuple ((["x", "y"] : List Str).map PyData.str)) (by rfl)) pa_nil))) pa_nil)) rfl)
    (pss_cons (ps_set (i := 5) scRight.nd rfl (Or.inl rfl) (pe_cal c1 hr (by omega) (by rfl) (pa_cons (pv 0) (pa_cons pe_int pa_nil))))
    (Evl.pss_cut (ps_set (i := 6) scRight.nd rfl (Or.inl rfl) (pe_ifExp (pt_cmpR op_gt (pv 5) pe_int (nomark _)) (pe_op op_sub (pe_cal c1 hr (by omega) (by rfl) (pa_cons (pv 0) (pa_cons pe_int pa_nil))) pe_int) (pe_op op_sub (pe_cal c1 hr (by omega) (by rfl) (pa_cons (pv 0) (pa_cons pe_int pa_nil))) pe_int)))
    (Evl.pss_cut (ps_par (i := 7) (j := 8) rfl scRight.nd rfl rfl (by decide) rfl rfl (pa_cons (pe_cal cLn hr (by omega) (by rfl) (pa_cons (pv 6) (pa_cons (pe_op op_add pe_int (pe_cal c1 hr (by omega) (by rfl) (pa_cons (pv 0) (pa_cons (pe_ifExp (pt_cmpR op_lt (pv 5) pe_int (nomark _)) pe_int pe_int) pa_nil)))) pa_nil))) (pa_cons (pe_callB (id := "repr") (r := rShowD) (call_showD hq hu70) (by rfl) nb.repr (by decide +kernel) (pa_cons (pv 3) pa_nil)) pa_nil)) rfl)
    (pss_cons (ps_set (i := 9) scRight.nd rfl (Or.inl rfl) (pe_cal cEx hr (by omega) (by rfl) (pa_cons (pv 3) pa_nil)))
    (pss_cons (ps_if (PW.pt (pw_or (pt_cmpR op_ne (pe_callB (id := "repr") (r := rShowD) (call_showD hq hu70) (by rfl) nb.repr (by decide +kernel) (pa_cons (pv 9) pa_nil)) (pe_callB (id := "repr") (r := rShowD) (call_showD hq hu70) (by rfl) nb.repr (by decide +kernel) (pa_cons (pe_cal cSw hr (by omega) (by rfl) (pa_cons (pv 3) pa_nil)) pa_nil)) (nomark _)) (pw_or1 (pt_cmpR op_ne (pe_callB (id := "repr") (r := rShowD) (call_showD hq hu70) (by rfl) nb.repr (by decide +kernel) (pa_cons (pe_cal cEx hr (by omega) (by rfl) (pa_cons (pv 9) pa_nil)) pa_nil)) (pv 8) (nomark _))))) (pss_one (ps_ret pe_bl)) pss_nil)
    (pss_cons (ps_if (pt_cmpR op_ne (pe_callB (id := "repr") (r := rShowD) (call_showD hq hu70) (by rfl) nb.repr (by decide +kernel) (pa_cons (pe_cal cPF hr (by omega) (by rfl) (pa_cons (pv 3) (pa_cons (pv 4) (pa_cons (pv 7) pa_nil)))) pa_nil)) (pe_callB (id := "repr") (r := rShowD) (call_showD hq hu70) (by rfl) nb.repr (by decide +kernel) (pa_cons (pe_cal cFi hr (by omega) (by rfl) (pa_cons (pv 3) (pa_cons (pv 4) (pa_cons (pv 7) pa_nil)))) pa_nil)) (nomark _)) (pss_one (ps_ret pe_bl)) pss_nil)
    (pss_cons (ps_set (i := 10) scRight.nd rfl (Or.inl rfl) (pe_cal cPu hr (by omega) (by rfl) (pa_cons (pv 3) pa_nil)))
    (pss_cons (ps_if (PW.pt (pw_or (pt_cmpR op_ne (pe_callB (id := "repr") (r := rShowD) (call_showD hq hu70) (by rfl) nb.repr (by decide +kernel) (pa_cons (pv 10) pa_nil)) (pe_callB (id := "repr") (r := rShowD) (call_showD hq hu70) (by rfl) nb.repr (by decide +kernel) (pa_cons (pe_cal cLe hr (by omega) (by rfl) (pa_cons (pv 3) (pa_cons pe_bl pa_nil))) pa_nil)) (nomark _)) (pw_or1 (pt_cmpR op_gt (pe_cal cDo hr (by omega) (by rfl) (pa_cons (pv 10) pa_nil)) (pe_cal cDo hr (by omega) (by rfl) (pa_cons (pv 3) pa_nil)) (nomark _))))) (pss_one (ps_ret pe_bl)) pss_nil)
    (pss_one (ps_ret (pe_and (pe_cmpR op_eq (pe_callB (id := "repr") (r := rShowD) (call_showD hq hu70) (by rfl) nb.repr (by decide +kernel) (pa_cons (pv 3) pa_nil)) (pv 8) (nomark _)) (pe_one (pe_or (pe_cmpR op_eq (pe_cal cDo hr (by omega) (by rfl) (pa_cons (pv 3) pa_nil)) pe_int (nomark _)) (pe_one (pe_cmpR op_eq (pe_callB (id := "repr") (r := rShowD) (call_showD hq hu70) (by rfl) nb.repr (by decide +kernel) (pa_cons (pe_cal cPu hr (by omega) (by rfl) (pa_cons (pe_tup (pa_cons pe_str (pa_cons (pv 3) pa_nil))) pa_nil)) pa_nil)) (pe_callB (id := "repr") (r := rShowD) (call_showD hq hu70) (by rfl) nb.repr (by decide +kernel) (pa_cons (pe_cal cLe hr (by omega) (by rfl) (pa_cons (pv 3) (pa_cons pe_bl pa_nil))) pa_nil)) (nomark _))))))))))))))))))), ?_⟩
  walk_at "rd"
  refine ⟨sz (by decide), fun L nL => ?_⟩
  have La : L ≠ a := hw.ne nL
  have k1 : Kp a H (upd H L (.lst [])) := kp_new nL
  have w1 : We a (upd H L (.lst [])) := we_new (o := .lst []) hw nL
  have e1 : upd H L (.lst []) L = some (.lst []) := upd_same
  generalize upd H L (.lst []) = H1 at k1 w1 e1 ⊢
  refine ⟨.ref a, rfl, pick_num w1 (by decide) (by decide) fun n H2 hn k2 w2 => ?_⟩
  have hn2 : 1 ≤ n ∧ n ≤ 8 := by
    simp only [List.mem_cons, List.not_mem_nil, or_false] at hn
    omega
  refine ⟨n, rfl, by omega, by omega, for_rng (lo := 0) (n := n.toNat) (fun i σ H' => ∃ (x2 : Option V) (xs : List V) (ps : List (List (List Int))), σ = [some (.ref a), some (.ref L), x2, none, none, none, none, none, none, none, none] ∧ Kp a H H' ∧ We a H' ∧ H' L = some (.lst xs) ∧ DaAll a H' xs (ps.map polyD) ∧ ps.length = i ∧ ∀ p ∈ ps, Pl p) ?_ ?_ ?_⟩
  · exact ⟨none, [], [], rfl, k1.trans k2, w2, k2 _ _ La e1, .nil, rfl, fun d hd => nomatch hd⟩
  · rintro i σ H3 hi ⟨x2, xs, ps, rfl, k3, w3, e3, d3, l3, p3⟩
    walk_at "rd"
    refine ⟨.ref L, rfl, .inl ⟨rfl, _, SqL.of e3⟩, .ref a, rfl, a, rfl, w3, fun v p H4 k4 w4 d4 pd => ⟨L, xs, v, rfl, rfl, k4 _ _ La e3, ?_, ?_⟩⟩
    · rw [d3.len, List.length_map]; exact lt_line (by omega)
    · have e4 := k4 _ _ La e3
      refine ⟨some (.int (0 + (i : Int))), xs ++ [v], ps ++ [p], rfl, kp_upd (k3.trans k4) nL, we_upd w4 La, upd_same, ?_, by simp [l3], fun e he => ?_⟩
      · rw [List.map_append]
        refine das_pure (H := H4) (fun b zs nb hb => ?_) ((d3.kp k4).append (.cons (K44R.da_poly w4 d4) .nil)) ?_
        · rw [upd_ne (fun z => by rw [z, e4] at hb; cases hb)]; exact hb
        · exact pureA_of fun e he => by
            rcases List.mem_append.mp he with he | he
            · obtain ⟨q, hq, rfl⟩ := List.mem_map.mp he
              exact isK_pure (small_k (pl_small (p3 q hq))).1
            · rw [List.mem_singleton.mp he]
              exact isK_pure (small_k (pl_small pd)).1
      · rcases List.mem_append.mp he with he | he
        · exact p3 e he
        · rw [List.mem_singleton.mp he]; exact pd
  rintro σ H3 ⟨x2, xs, ps, rfl, k3, w3, e3, d3, l3, p3⟩
  refine ⟨.ref a, rfl, .ref L, rfl, .ref a, rfl, pick_num w3 (by decide) (by decide) fun t H4 ht k4 w4 => ?_⟩
  have ht2 : 1 ≤ t ∧ t ≤ 10 := by
    simp only [List.mem_cons, List.not_mem_nil, or_false] at ht
    omega
  obtain ⟨dp, rfl⟩ := Int.eq_ofNat_of_zero_le (show 0 ≤ t by omega)
  refine ⟨a, L, ps, dp, rfl, ⟨w4, La, ⟨xs, k4 _ _ La e3, d3.kp k4⟩, by omega, by omega, p3⟩, by omega, by omega, fun v s H5 k5 w5 d5 g5 => ?_⟩
  obtain ⟨so, sd, sl, sz4⟩ := g5
  refine ⟨.ref a, rfl, pick_word w5 (by decide) (by decide) fun wl H6 hwl k6 w6 => ⟨_, _, rfl, ?_⟩⟩
  obtain ⟨x, rfl⟩ : ∃ x : Bool, wl = if x then ("x" : Str) else "y" := by
    simp only [List.mem_cons, List.not_mem_nil, or_false] at hwl
    rcases hwl with rfl | rfl
    · exact ⟨true, rfl⟩
    · exact ⟨false, rfl⟩
  refine ⟨.ref a, rfl, a, _, rfl, w6, by decide, by decide, fun fa H7 f0 f1 k7 w7 => ?_⟩
  have kA := (((k3.trans k4).trans k5).trans k6).trans k7
  have d7 := (d5.kp k6).kp k7
  -- what is known of the saying
  have pls : ∀ q ∈ s.leaves, ∃ p ∈ ps, q = polyD p := sl
  have lLB : ∀ q ∈ s.leaves, lf LB q = true := fun q hq => by
    obtain ⟨p, hp, rfl⟩ := pls q hq
    exact lf_mk fun r hr c hc => ((p3 p hp).2.2 r hr).2 c hc
  have b12 : LB ≤ B2 := by decide
  have many : s.polys.length ≤ 8 := by
    have := nodup_len (Say.polys_nodup s) (m := ps.map polyD) fun q hq => by
      obtain ⟨p, hp, rfl⟩ := pls q ((polys_leaves so).mp hq)
      exact List.mem_map_of_mem hp
    rw [List.length_map] at this
    omega
  have shoS : Sho s := ⟨so, fun q hq => lf_b2 (lLB q hq) b12, by omega, by omega⟩
  have shoE : Sho s.ex := ⟨ex_ok so, fun q hq => by
    rw [ex_leaves] at hq
    obtain ⟨q0, h0, rfl⟩ := List.mem_map.mp hq
    obtain ⟨p, hp, rfl⟩ := pls q0 h0
    obtain ⟨_, pl2, pl3⟩ := p3 p hp
    have be := K44R.bd_exch (n := 5) (b := LB) (p := p) ⟨pl2, pl3⟩
    unfold exD
    rw [un_poly]
    exact lf_b2 (lf_mk fun r hr c hc => (be.2 r hr).2 c hc) b12, by rw [ex_sz]; omega, by rw [ex_depth]; omega⟩
  have shoU : ∀ neg, Sho (s.push neg) := fun neg => ⟨push_ok neg so, fun q hq => by
    rw [push_leaves, List.map_id] at hq
    exact lf_b2 (lLB q hq) b12, by have := push_sz s neg; omega, by have := push_depth s neg; omega⟩
  have lfS : lf LB s.d = true := say_lf so lLB
  refine ⟨fun σ' H' => ∃ top : Int, top.natAbs < 2 ^ 23 ∧ σ' = [some (.ref a), some (.ref L), x2, some v, some (.str (if x then ("x" : Str) else "y")), some (.int fa), some (.int top), none, none, none, none] ∧ Kp a H7 H' ∧ We a H', ?_, ?_⟩
  · refine ⟨.int fa, rfl, _, _, rfl, rfl, _, rfl, ite2 (fun _ => ?_) (fun _ => ?_)⟩
    · exact ⟨.ref a, rfl, a, _, rfl, w7, by decide, by decide, fun r H8 r0 r1 k8 w8 => ⟨_, _, rfl, rfl, r - 4, by omega, rfl, k8, w8⟩⟩
    · exact ⟨.ref a, rfl, a, _, rfl, w7, by decide, by decide, fun r H8 r0 r1 k8 w8 => ⟨_, _, rfl, rfl, r - 2000001, by omega, rfl, k8, w8⟩⟩
  rintro σ' H8 ⟨top, htop, rfl, k8, w8⟩
  have kB := kA.trans k8
  have d8 := d7.kp k8
  refine ⟨fun σ' H' => ∃ (f : V) (n m : Int), Pr H' f n m ∧ n.natAbs < 2 ^ 24 ∧ 0 < m ∧ m < 2 ^ 24 ∧ Nat.gcd n.natAbs m.natAbs = 1 ∧ σ' = [some (.ref a), some (.ref L), x2, some v, some (.str (if x then ("x" : Str) else "y")), some (.int fa), some (.int top), some f, some (.str s.d.shown), none, none] ∧ Kp a H8 H' ∧ We a H', ?_, ?_⟩
  · refine ⟨.int top, rfl, .ref a, rfl, .int fa, rfl, _, _, rfl, rfl, _, rfl, ite2 (fun _ => ?_) (fun _ => ?_)⟩
    all_goals
      refine ⟨a, _, rfl, w8, by decide, by decide, fun r H9 r0 r1 k9 w9 => ⟨_, _, rfl, rfl, top, 1 + r, rfl, by omega, by omega, fun f n m H10 s10 pr lo => ⟨v, rfl, shoS.rd ((d8.kp k9).same s10) ⟨_, _, rfl, ?_⟩⟩⟩⟩
      obtain ⟨g1, g2⟩ := K44R.lo_share lo (by omega)
      obtain ⟨b0, cop, _⟩ := lo
      have gp : 1 ≤ (Nat.gcd top.natAbs (1 + r).natAbs : Int) := by
        refine Decidable.byContradiction fun z => ?_
        have : (Nat.gcd top.natAbs (1 + r).natAbs : Int) = 0 := by omega
        rw [this, Int.mul_zero] at g1
        omega
      have mb : m ≤ 1 + r := by
        have := Int.mul_le_mul_of_nonneg_left gp (Int.le_of_lt b0)
        rw [g1, Int.mul_one] at this
        exact this
      have nb2 : n.natAbs ≤ top.natAbs := by
        have e := congrArg Int.natAbs g2
        rw [Int.natAbs_mul] at e
        rw [← e]
        exact Nat.le_mul_of_pos_right _ (by omega)
      exact ⟨f, n, m, pr, by omega, b0, by omega, cop, rfl, k9.trans (Kp.of s10), w9.to s10⟩
  rintro σ' H9 ⟨f, n, m, pr, n1, m0, m1, cop, rfl, k9, w9⟩
  have kC := kB.trans k9
  have d9 := d8.kp k9
  have shoP : Sho (s.put x n m) := ⟨put_ok so, fun q hq => by
    rcases put_leaves x n m s q hq with h | ⟨q0, h0, rfl⟩
    · exact lf_b2 (lLB q h) b12
    · obtain ⟨p, hp, rfl⟩ := pls q0 h0
      obtain ⟨_, pl2, pl3⟩ := p3 p hp
      have big : (2 ^ 195 : Nat) ≤ B2 := by decide
      unfold putD
      rw [un_poly]
      cases x with
      | true => exact lf_b2 (lf_mk (put_num ⟨pl2, pl3⟩ n1 m0 m1)) big
      | false =>
        have be := K44R.bd_exch (n := 5) (b := LB) (p := p) ⟨pl2, pl3⟩
        have nb3 := put_num be n1 m0 m1
        obtain ⟨l1, l2⟩ := putX_len (exch p) n m
        have be2 := K44R.bd_exch (n := 5) (b := 2 ^ 195) (p := putX (exch p) n m) ⟨Nat.le_trans l1 be.1, fun r hr => ⟨Nat.le_trans (l2 r hr) (by decide), nb3 r hr⟩⟩
        exact lf_b2 (lf_mk fun r hr c hc => (be2.2 r hr).2 c hc) big, by rw [(put_sz x n m s).1]; omega, by rw [(put_sz x n m s).2]; omega⟩
  have din : ∀ {H' : Hp}, Same H9 H' → In a H' v s := fun z => ⟨w9.to z, d9.same z, ⟨_, say_sm so⟩, so, by omega, many⟩
  have fin : ∀ H', Same H9 H' → Q (.bl true) H' := fun H' z => q H' (kC.trans (Kp.of z))
  refine ⟨v, rfl, a, v, s, rfl, din (Same.refl _), fun vb H10 s10 db => ?_⟩
  have eIn : ∀ {H' : Hp}, Same H10 H' → In a H' vb s.ex := fun z => ⟨(w9.to s10).to z, db.same z, ⟨_, say_sm (ex_ok so)⟩, ex_ok so, by rw [ex_depth]; omega, Nat.le_trans (ex_many so) many⟩
  refine ⟨vb, rfl, shoE.rd db ⟨v, rfl, a, v, s, rfl, w9.to s10, d9.same s10, so, by omega, fun v1 H11 s11 d1 => shoE.rd d1 ⟨rfl, _, rfl, ?_⟩⟩⟩
  rw [decide_eq_true rfl]
  refine iteF ⟨vb, rfl, a, vb, s.ex, rfl, eIn s11, fun v2 H12 s12 d2 => ?_⟩
  rw [ex_two so] at d2
  refine shoS.rd d2 ⟨.str _, rfl, rfl, _, rfl, ?_⟩
  rw [decide_eq_true rfl]
  have sA := (s10.trans s11).trans s12
  have prA : ∀ {H' : Hp}, Same H9 H' → Pr H' f n m := fun z => pr.kt (Kt.of z)
  refine iteF ⟨v, rfl, .str _, rfl, f, rfl, a, v, f, s, x, n, m, rfl, din sA, lfS, prA sA, cop, n1, m0, m1, fun v3 H13 s13 d3' => ?_⟩
  have sB := sA.trans s13
  refine shoP.rd d3' ⟨v, rfl, .str _, rfl, f, rfl, a, v, f, s, x, n, m, rfl, w9.to sB, d9.same sB, so, by omega, lfS, prA sB, n1, m0, m1, fun v4 H14 s14 d4' => shoP.rd d4' ⟨rfl, _, rfl, ?_⟩⟩
  rw [decide_eq_true rfl]
  have sC := sB.trans s14
  refine iteF ⟨v, rfl, a, v, s, rfl, din sC, fun vp H15 s15 d15 => ?_⟩
  have sD := sC.trans s15
  have pd := push_depth s false
  refine ⟨vp, rfl, (shoU false).rd d15 ⟨v, rfl, a, v, s, false, rfl, w9.to sD, d9.same sD, so, by omega, fun v5 H16 s16 d16 => (shoU false).rd d16 ⟨rfl, _, rfl, ?_⟩⟩⟩
  rw [decide_eq_true rfl]
  have sE := sD.trans s16
  have dout : ∀ {H' : Hp} {R : VK} {E : XK}, Same H9 H' → (∀ H'', Same H' H'' → R (.int (s.depth : Int)) H'') → spDepthOf [v] H' R E := fun {H'} {R} {E} z k => ⟨a, v, s, _, rfl, (w9.to z).some, d9.same z, say_sm so, say_d so, by omega, many, k⟩
  refine iteF ⟨vp, rfl, a, vp, s.push false, _, rfl, (w9.to sE).some, d15.same s16, say_sm (push_ok false so), say_d (push_ok false so), by omega, Nat.le_trans (push_many false so) many, fun H17 s17 => ⟨v, rfl, dout (sE.trans s17) fun H18 s18 => ⟨_, _, rfl, rfl, _, rfl, ite2 (fun z => absurd (of_decide_eq_true z) (by omega)) (fun _ => ?_)⟩⟩⟩
  have sF := (sE.trans s17).trans s18
  refine ⟨v, rfl, shoS.rd (d9.same sF) ⟨.str _, rfl, rfl, _, rfl, ?_⟩⟩
  rw [decide_eq_true rfl]
  refine iteT ⟨v, rfl, dout sF fun H19 s19 => ⟨rfl, _, rfl, ?_⟩⟩
  have sG := sF.trans s19
  by_cases h10 : s.depth = 10
  · rw [h10]
    exact iteT (fin _ sG)
  · rw [decide_eq_false (fun z => h10 (by injection z with z; omega))]
    refine iteF ⟨v, rfl, sz (by simp), fun p np => ?_⟩
    obtain ⟨s20, d20⟩ := newT (w9.to sG).some (DaAll.cons (.str "not") (.cons (d9.same sG) .nil)) np
    have sH := sG.trans s20
    refine ⟨a, .ref p, .nn s, rfl, ⟨w9.to sH, d20, ⟨_, say_sm (s := .nn s) so⟩, so, by rw [depth_nn]; omega, many⟩, fun v6 H21 s21 d21 => ?_⟩
    have sI := sH.trans s21
    refine (shoU true).rd d21 ⟨v, rfl, a, v, s, true, rfl, w9.to sI, d9.same sI, so, by omega, fun v7 H22 s22 d22 => (shoU true).rd d22 ⟨rfl, ?_⟩⟩
    rw [decide_eq_true rfl]
    exact fin _ (sI.trans s22)
end
end K44

set_option Elab.async false
set_option linter.all false
set_option maxRecDepth 100000
set_option maxHeartbeats 8000000
local macro_rules | `(tactic| walk_at "rd") => `(tactic| dsimp only [Evl.tCut, L2.tSeq, L2.tNext, L2.tRet, L2.tRetN, L2.tAsg, L2.gName, L2.tIfS, L2.tDrop, L2.tCons, L2.tNil, L2.tC, L2.tVar, L2.tCB, L2.tAndV, L2.tOrV, L2.tNotV, L2.tB, L2.tTest, L2.tOp, L2.tUn, L2.tNot, L2.tAnd, L2.tOr, L2.tIf, L2.tCall, L2.tTup, L2.tLst, L2.tNotT, L2.tYes, L2.gTup, L2.gCons, L2.gNil, L2.gSub, L2.tBM0, L2.tBM, L2.tWhile, L2.tFor, L2.iRng1, L2.iRng2, L2.tAugS, Tw.iEnumT, L2.tCKw, L2.tAug, L2.ipI, RT.iRevA, L2.tPar, L2.tPar3, L2.tSl, L2.tNoPart, L2.tPart, Tw.tRevT, Tw.tFput])
namespace K44
open PySem PySem.Spec PyProof.Rows L2 Tw
open K44R (polyD okP okR exch lng T numAt nums co g rw' trimI trimP col Ro RoA Po Pr Bd RelA Stable stable_ro stable_eq lc_relT lc_relL wipeJ Kt kt_upd max_lng RoA.kt Kt.of RelA.eq_map lng_bd)
section
variable {P : Program} {w : World} {K : PySem.W.Frag} {mg : Str → Option Value} {base : Heap}
theorem scLaw : FnScope ["_law_script", "_law_at"] ["_law_script"] (defScope sLaw) := ⟨rfl, rfl, rfl, by decide +kernel, rfl, by decide +kernel, by decide +kernel⟩
theorem ok_law (D : Def K mg "law" sLaw ["_law_script"]) (nb : Nb mg) (c1 : Cal P w K mg base "_law_well" 1 ["_law_script", "_law_at"] (spWell K)) (c2 : CalG P w K mg base "_law_right" 19 ["_law_well_here"] spRight) :
    CalG P w K mg base "law" 20 ["_law_script"] (spLaw K) := by
  refine D.okG scLaw (fun vs H Q E h => ?_) (fun f cdv A out s H vs Q E hq hr h => ?_)
  · obtain ⟨p, ns, rfl, _⟩ := h; rfl
  obtain ⟨p, ns, rfl, hp, hl, q⟩ := h
  refine ⟨_, pss_one (ps_ret (pe_callB (id := "all") (r := rAll K) (cr_all rfl) (by rfl) nb.all (by decide +kernel) (pa_cons
    (pe_lc (own := [("_law_at", 1)]) (g := gName 1) (tt := tYes) rfl scLaw.nd (pi_range1 (by rfl) nb.rng (pa_cons (pe_callB (id := "max") (call_max2 rfl) (by rfl) nb.max (by decide +kernel) (pa_cons pe_int (pa_cons
        (pe_callB (id := "min") (call_min2 rfl) (by rfl) nb.min (by decide +kernel) (pa_cons (pe_callB (id := "len") call_len_seq (by rfl) nb.len PySem.boot_len (pa_cons (pv 0) pa_nil)) (pa_cons pe_int pa_nil))) pa_nil))) pa_nil))
      (blkOk_by (N := ["_law_script", "_law_at"]) (sc := defScope sLaw) (by decide +kernel)) (fun _ _ _ _ _ => pg_name (i := 1) scLaw.nd rfl (Or.inl rfl)) (fun _ _ _ _ _ => pts_nil)
      (fun _ _ _ _ _ => pe_calG c2 hq hr (by decide) (by rfl) (pa_cons (pe_cal c1 hr (by decide) (by rfl) (pa_cons (pv 0) (pa_cons (pv 1) pa_nil))) pa_nil))) pa_nil))), ?_⟩
  walk_at "rd"
  generalize hm : (if (3 : Int) < ((ns.map V.int).length : Int) then (3 : Int) else ((ns.map V.int).length : Int)) = m
  generalize hk : (if m > 1 then m else 1) = k
  have k0 : 1 ≤ k := by rw [← hk]; split <;> omega
  have k1 : k ≤ 4 := by
    have : m ≤ 4 := by rw [← hm]; split <;> omega
    rw [← hk]; split <;> omega
  refine lc_rng (n := k.toNat) (fun _ => V.bl true) (fun R hR => ?_) (by omega) (wipe1 _ 1) (fun i H1 hi s1 R kR => ?_) fun L H1 s1 nL hL => ?_
  · refine ⟨.ref p, rfl, p, _, rfl, .inl hp, _, _, rfl, _, _, rfl, k, ?_, by omega, by omega, hR⟩
    rw [hm, hk]
  · refine ⟨.ref p, rfl, .int (0 + (i : Int)), rfl, p, ns, _, rfl, s1.seq hp, hl, by omega, fun a H2 s2 na w2 => ⟨a, rfl, w2, fun H3 k3 => kR H3 (same_kp s2 na k3)⟩⟩
  · refine ⟨L, (List.range k.toNat).map (fun _ => true), rfl, SqL.of (by rw [List.map_map]; exact hL), ?_⟩
    have e : ((List.range k.toNat).map (fun _ => true)).all id = true := by
      rw [List.all_eq_true]
      intro b hb
      obtain ⟨_, _, rfl⟩ := List.mem_map.mp hb
      rfl
    rw [e]
    exact q H1
end
/-! the text's constants -/
theorem with_int {R : Prop} {K : PySem.W.Frag} {mg : Str → Option Value} {x : Str} {i : Int} {t : Tok} {h : Heap} (X : K.In h) (G : h.Ns mainGlobals mg) (a : PySem.W.nsIn K mainGlobals x = some (some (.int i t))) (go : (∃ t, mg x = some (.int i t)) → R) : R := go ⟨t, PySem.W.mg_of X G a⟩
theorem with_val {R : Prop} {K : PySem.W.Frag} {mg : Str → Option Value} {x : Str} {v : Value} {h : Heap} (X : K.In h) (G : h.Ns mainGlobals mg) (a : PySem.W.nsIn K mainGlobals x = some (some v)) (go : mg x = some v → R) : R := go (PySem.W.mg_of X G a)
theorem with_tup2 {R : Prop} {K : PySem.W.Frag} {mg : Str → Option Value} {x z1 z2 : Str} {t1 t2 : Tok} {p : Addr} {od : Option Addr} {sl : Array (Option Value)} {n : Nat} {h : Heap} (X : K.In h) (G : h.Ns mainGlobals mg) (a : PySem.W.nsIn K mainGlobals x = some (some (.ref p)))
    (l : K.lookup p = some ⟨.type "tuple", od, .seq #[.str z1 t1, .str z2 t2] n, sl⟩) (go : (∃ p, mg x = some (.ref p) ∧ ∀ H : Hp, SqT K H p [.str z1, .str z2]) → R) : R :=
  go ⟨p, PySem.W.mg_of X G a, fun H => Or.inr ⟨_, _, n, l, rfl, rfl, sz (by show 2 ≤ 100000; decide), .cons ⟨_, rfl⟩ (.cons ⟨_, rfl⟩ .nil)⟩⟩
theorem rel_find {z : Str} {es : List DictEntry} (h : ∀ e ∈ es, e.key.isStr z = false) : es.find? (fun e => e.key.isStr z) = none := List.find?_eq_none.mpr fun e he => by rw [h e he]; exact Bool.false_ne_true
theorem with_rel {R : Prop} {K : PySem.W.Frag} {w : World} {mg : Str → Option Value} {h : Heap} {d : Addr} {n : Nat} {t1 t2 t3 t4 t5 t6 : Tok} {v1 v2 v3 v4 v5 v6 : Value} {h1 h2 h3 h4 h5 h6 : Int} (X : K.In h) (G : h.Ns mainGlobals mg) (a : PySem.W.nsIn K mainGlobals "RELATIONS" = some (some (.ref d)))
    (l : K.lookup d = some ⟨.type "dict", none, .dict #[⟨h1, .str "below" t1, v1⟩, ⟨h2, .str "at" t2, v2⟩, ⟨h3, .str "above" t3, v3⟩, ⟨h4, .str "not below" t4, v4⟩, ⟨h5, .str "not at" t5, v5⟩, ⟨h6, .str "not above" t6, v6⟩] n, #[]⟩)
    (k1 : h1 = PyData.keyHash w.params "below") (k2 : h2 = PyData.keyHash w.params "at") (k3 : h3 = PyData.keyHash w.params "above") (k4 : h4 = PyData.keyHash w.params "not below") (k5 : h5 = PyData.keyHash w.params "not at") (k6 : h6 = PyData.keyHash w.params "not above")
    (lo : (d == sysModules) = false) (go : (∃ (d : Addr) (es : Array DictEntry) (n : Nat), mg "RELATIONS" = some (.ref d) ∧ KDict K w d es n ∧ ∀ z, ∃ r, PySem.W.nsIn K d z = some r ∧ r.isSome = decide (z ∈ rels)) → R) : R := by
  refine go ⟨d, _, n, PySem.W.mg_of X G a, ⟨l, ⟨⟨_, _, rfl, k1⟩, ⟨_, _, rfl, k2⟩, ⟨_, _, rfl, k3⟩, ⟨_, _, rfl, k4⟩, ⟨_, _, rfl, k5⟩, ⟨_, _, rfl, k6⟩, trivial⟩, lo⟩, fun z => ?_⟩
  unfold PySem.W.nsIn
  rw [l]
  by_cases hz : z ∈ rels
  · rw [decide_eq_true hz]
    simp only [rels, List.mem_cons, List.not_mem_nil, or_false] at hz
    rcases hz with rfl | rfl | rfl | rfl | rfl | rfl
    · exact ⟨some v1, rfl, rfl⟩
    · exact ⟨some v2, rfl, rfl⟩
    · exact ⟨some v3, rfl, rfl⟩
    · exact ⟨some v4, rfl, rfl⟩
    · exact ⟨some v5, rfl, rfl⟩
    · exact ⟨some v6, rfl, rfl⟩
  · rw [decide_eq_false hz]
    have ne : ∀ x ∈ rels, (x == z) = false := fun x hx => beq_eq_false_iff_ne.mpr fun e => hz (e ▸ hx)
    refine ⟨none, ?_, rfl⟩
    dsimp only
    rw [rel_find]
    · rfl
    · intro e he
      simp only [List.mem_cons, List.not_mem_nil, or_false] at he
      rcases he with rfl | rfl | rfl | rfl | rfl | rfl
      · exact ne "below" (by decide)
      · exact ne "at" (by decide)
      · exact ne "above" (by decide)
      · exact ne "not below" (by decide)
      · exact ne "not at" (by decide)
      · exact ne "not above" (by decide)
theorem with_OTHER {R : Prop} {K : PySem.W.Frag} {w : World} {mg : Str → Option Value} {h : Heap} {d : Addr} {n : Nat} {t0 t1 s0 s1 : Tok} {h0 h1 : Int} (X : K.In h) (G : h.Ns mainGlobals mg) (a : PySem.W.nsIn K mainGlobals "OTHER" = some (some (.ref d)))
    (l : K.lookup d = some ⟨.type "dict", none, .dict #[⟨h0, .str "x" t0, .str "y" s0⟩, ⟨h1, .str "y" t1, .str "x" s1⟩] n, #[]⟩) (k0 : h0 = PyData.keyHash w.params "x") (k1 : h1 = PyData.keyHash w.params "y")
    (go : (∃ d, mg "OTHER" = some (.ref d) ∧ KDct K w d "x" (.str "y") ∧ KDct K w d "y" (.str "x")) → R) : R := by
  have at_ : ∀ (z y : Str) (t : Tok), PySem.W.nsIn K d z = some (some (.str y t)) → KDct K w d z (.str y) := fun z y t e => ⟨_, n, _, l, ⟨⟨_, _, rfl, k0⟩, ⟨_, _, rfl, k1⟩, trivial⟩, e, ⟨t, rfl⟩⟩
  have ns : ∀ z, PySem.W.nsIn K d z = (match ([⟨h0, .str "x" t0, .str "y" s0⟩, ⟨h1, .str "y" t1, .str "x" s1⟩] : List DictEntry).find? (·.key.isStr z) with
      | some e => some (some e.val)
      | none => if ([⟨h0, .str "x" t0, .str "y" s0⟩, ⟨h1, .str "y" t1, .str "x" s1⟩] : List DictEntry).any (·.refKey) then none else some none) := fun z => by unfold PySem.W.nsIn; rw [l]; rfl
  refine go ⟨d, PySem.W.mg_of X G a, at_ "x" "y" _ (by rw [ns]; rfl), at_ "y" "x" _ (by rw [ns]; rfl)⟩
theorem with_OPPOSITE {R : Prop} {K : PySem.W.Frag} {w : World} {mg : Str → Option Value} {h : Heap} {d : Addr} {n : Nat} {t0 t1 t2 t3 t4 t5 t6 t7 t8 t9 t10 t11 s0 s1 s2 s3 s4 s5 s6 s7 s8 s9 s10 s11 : Tok} {h0 h1 h2 h3 h4 h5 h6 h7 h8 h9 h10 h11 : Int} (X : K.In h) (G : h.Ns mainGlobals mg) (a : PySem.W.nsIn K mainGlobals "OPPOSITE" = some (some (.ref d)))
    (l : K.lookup d = some ⟨.type "dict", none, .dict #[⟨h0, .str "below" t0, .str "not below" s0⟩, ⟨h1, .str "at" t1, .str "not at" s1⟩, ⟨h2, .str "above" t2, .str "not above" s2⟩, ⟨h3, .str "not below" t3, .str "below" s3⟩, ⟨h4, .str "not at" t4, .str "at" s4⟩, ⟨h5, .str "not above" t5, .str "above" s5⟩, ⟨h6, .str "true" t6, .str "false" s6⟩, ⟨h7, .str "false" t7, .str "true" s7⟩, ⟨h8, .str "both" t8, .str "either" s8⟩, ⟨h9, .str "either" t9, .str "both" s9⟩, ⟨h10, .str "all" t10, .str "some" s10⟩, ⟨h11, .str "some" t11, .str "all" s11⟩] n, #[]⟩) (k0 : h0 = PyData.keyHash w.params "below") (k1 : h1 = PyData.keyHash w.params "at") (k2 : h2 = PyData.keyHash w.params "above") (k3 : h3 = PyData.keyHash w.params "not below") (k4 : h4 = PyData.keyHash w.params "not at") (k5 : h5 = PyData.keyHash w.params "not above") (k6 : h6 = PyData.keyHash w.params "true") (k7 : h7 = PyData.keyHash w.params "false") (k8 : h8 = PyData.keyHash w.params "both") (k9 : h9 = PyData.keyHash w.params "either") (k10 : h10 = PyData.keyHash w.params "all") (k11 : h11 = PyData.keyHash w.params "some")
    (go : (∃ d, mg "OPPOSITE" = some (.ref d) ∧ KDct K w d "true" (.str "false") ∧ KDct K w d "false" (.str "true") ∧ KDct K w d "both" (.str "either") ∧ KDct K w d "either" (.str "both") ∧ KDct K w d "all" (.str "some") ∧ KDct K w d "some" (.str "all") ∧ ∀ z ∈ rels, KDct K w d z (.str (opp z))) → R) : R := by
  have at_ : ∀ (z y : Str) (t : Tok), PySem.W.nsIn K d z = some (some (.str y t)) → KDct K w d z (.str y) := fun z y t e => ⟨_, n, _, l, ⟨⟨_, _, rfl, k0⟩, ⟨_, _, rfl, k1⟩, ⟨_, _, rfl, k2⟩, ⟨_, _, rfl, k3⟩, ⟨_, _, rfl, k4⟩, ⟨_, _, rfl, k5⟩, ⟨_, _, rfl, k6⟩, ⟨_, _, rfl, k7⟩, ⟨_, _, rfl, k8⟩, ⟨_, _, rfl, k9⟩, ⟨_, _, rfl, k10⟩, ⟨_, _, rfl, k11⟩, trivial⟩, e, ⟨t, rfl⟩⟩
  have ns : ∀ z, PySem.W.nsIn K d z = (match ([⟨h0, .str "below" t0, .str "not below" s0⟩, ⟨h1, .str "at" t1, .str "not at" s1⟩, ⟨h2, .str "above" t2, .str "not above" s2⟩, ⟨h3, .str "not below" t3, .str "below" s3⟩, ⟨h4, .str "not at" t4, .str "at" s4⟩, ⟨h5, .str "not above" t5, .str "above" s5⟩, ⟨h6, .str "true" t6, .str "false" s6⟩, ⟨h7, .str "false" t7, .str "true" s7⟩, ⟨h8, .str "both" t8, .str "either" s8⟩, ⟨h9, .str "either" t9, .str "both" s9⟩, ⟨h10, .str "all" t10, .str "some" s10⟩, ⟨h11, .str "some" t11, .str "all" s11⟩] : List DictEntry).find? (·.key.isStr z) with
      | some e => some (some e.val)
      | none => if ([⟨h0, .str "below" t0, .str "not below" s0⟩, ⟨h1, .str "at" t1, .str "not at" s1⟩, ⟨h2, .str "above" t2, .str "not above" s2⟩, ⟨h3, .str "not below" t3, .str "below" s3⟩, ⟨h4, .str "not at" t4, .str "at" s4⟩, ⟨h5, .str "not above" t5, .str "above" s5⟩, ⟨h6, .str "true" t6, .str "false" s6⟩, ⟨h7, .str "false" t7, .str "true" s7⟩, ⟨h8, .str "both" t8, .str "either" s8⟩, ⟨h9, .str "either" t9, .str "both" s9⟩, ⟨h10, .str "all" t10, .str "some" s10⟩, ⟨h11, .str "some" t11, .str "all" s11⟩] : List DictEntry).any (·.refKey) then none else some none) := fun z => by unfold PySem.W.nsIn; rw [l]; rfl
  refine go ⟨d, PySem.W.mg_of X G a, at_ "true" "false" _ (by rw [ns]; rfl), at_ "false" "true" _ (by rw [ns]; rfl), at_ "both" "either" _ (by rw [ns]; rfl), at_ "either" "both" _ (by rw [ns]; rfl), at_ "all" "some" _ (by rw [ns]; rfl), at_ "some" "all" _ (by rw [ns]; rfl), fun z hz => ?_⟩
  simp only [rels, List.mem_cons, List.not_mem_nil, or_false] at hz
  rcases hz with rfl | rfl | rfl | rfl | rfl | rfl
  · rw [show opp "below" = "not below" from by decide]
    exact at_ "below" "not below" _ (by rw [ns]; rfl)
  · rw [show opp "at" = "not at" from by decide]
    exact at_ "at" "not at" _ (by rw [ns]; rfl)
  · rw [show opp "above" = "not above" from by decide]
    exact at_ "above" "not above" _ (by rw [ns]; rfl)
  · rw [show opp "not below" = "below" from by decide]
    exact at_ "not below" "below" _ (by rw [ns]; rfl)
  · rw [show opp "not at" = "at" from by decide]
    exact at_ "not at" "at" _ (by rw [ns]; rfl)
  · rw [show opp "not above" = "above" from by decide]
    exact at_ "not above" "above" _ (by rw [ns]; rfl)
end K44

set_option Elab.async false
set_option linter.all false
set_option maxRecDepth 100000
namespace K44
open PySem PySem.Spec PyProof.Rows L2 Tw
/-- all defs and names, put together -/
theorem whole {P : Program} {w : World} {K : PySem.W.Frag} {mg : Str → Option Value} (nb : Nb mg) (nbR : K44R.Nb mg) (cs : Cs K w mg) (ct : Ct K w mg)
    (d0 : Def K mg "is_whole" sWhole ["value"])
    (d1 : Def K mg "is_fraction" sFraction ["value"])
    (d2 : Def K mg "power" sPower ["base", "many"])
    (d3 : Def K mg "trimmed" sTrim ["numbers"])
    (d4 : Def K mg "scaled_value" sScaled ["row", "n", "m"])
    (d5 : Def K mg "is_row" sRow ["value"])
    (d6 : Def K mg "poly_trimmed" sPTrim ["rows"])
    (d7 : Def K mg "poly_exchanged" sPEx ["poly"])
    (d8 : Def K mg "is_poly" sPoly ["value"])
    (d9 : Def K mg "check_fraction" sCheckF ["fraction"])
    (d10 : Def K mg "width_in_x" sWidth ["poly"])
    (d11 : Def K mg "depth_in" sDepthIn ["saying"])
    (d12 : Def K mg "says_exchanged" sSEx ["saying"])
    (d13 : Def K mg "poly_put" sPPut ["poly", "letter", "fraction"])
    (d14 : Def K mg "says_put" sSPut ["saying", "letter", "fraction"])
    (d15 : Def K mg "says_pushed" sSPush ["saying", "is_not"])
    (d16 : Def K mg "is_small_poly" sSmall ["value"])
    (d17 : Def K mg "is_letter" sIsLetter ["value"])
    (d18 : Def K mg "does_fit" sFit ["value", "deep", "found"])
    (d19 : Def K mg "unlike_polys" sUnlike ["saying"])
    (d20 : Def K mg "check_saying" sCheck ["saying"])
    (d21 : Def K mg "check_letter" sCheckL ["letter"])
    (d22 : Def K mg "depth_of" sDepthOf ["saying"])
    (d23 : Def K mg "exchanged" sExch ["saying"])
    (d24 : Def K mg "put_for" sPutFor ["saying", "letter", "fraction"])
    (d25 : Def K mg "pushed" sPushed ["saying"])
    (d26 : Def K mg "_law_well" sWell ["_law_script", "_law_at"])
    (d27 : Def K mg "_law_draw" sDraw ["_law_well_here", "_law_many"])
    (d28 : Def K mg "_law_pick" sPick ["_law_well_here", "_law_some"])
    (d29 : Def K mg "_law_share" sShare ["_law_one", "_law_two"])
    (d30 : Def K mg "_law_lean" sLean ["_law_top", "_law_low"])
    (d31 : Def K mg "_law_row" sLRow ["_law_some"])
    (d32 : Def K mg "_law_number" sNumber ["_law_well_here"])
    (d33 : Def K mg "_law_poly" sLPoly ["_law_well_here"])
    (d34 : Def K mg "_law_leaf" sLeaf ["_law_well_here", "_law_some"])
    (d35 : Def K mg "_law_made" sMade ["_law_well_here", "_law_some", "_law_deep"])
    (d36 : Def K mg "_law_turned" sTurned ["_law_poly_here"])
    (d37 : Def K mg "_law_swapped" sSwapped ["_law_said"])
    (d38 : Def K mg "_law_scaled" sLScaled ["_law_row_here", "_law_spot"])
    (d39 : Def K mg "_law_put" sLPut ["_law_poly_here", "_law_letter", "_law_spot"])
    (d40 : Def K mg "_law_filled" sFilled ["_law_said", "_law_letter", "_law_spot"])
    (d41 : Def K mg "_law_led" sLed ["_law_said", "_law_is_not"])
    (d42 : Def K mg "_law_right" sRight ["_law_well_here"])
    (d43 : Def K mg "law" sLaw ["_law_script"])
    (base : Heap) : CalG P w K mg base "law" 20 ["_law_script"] (spLaw K) := by
  have c_whole := ok_whole (P := P) (w := w) (base := base) d0 nb
  have c_row := ok_row d5 nb c_whole
  have c_poly := ok_poly d8 nb c_row
  have c_width := ok_width (P := P) (w := w) (base := base) d10 nb
  have c_dep := depth_all (P := P) (w := w) (base := base) d11 nb 10
  have c_small := ok_small d16 nb cs c_poly c_width
  have c_let := ok_isLetter (P := P) (w := w) (base := base) d17 nb cs
  have c_fit := fit_all d18 nb cs c_let c_small 10
  have c_unl := ok_unlike d19 nb cs c_fit
  have c_chk := ok_check d20 nb cs c_unl
  have c_do := ok_depthOf d22 nb c_chk c_dep
  have r_whole := K44R.ok_whole (P := P) (w := w) (base := base) d0 nbR
  have r_fr := K44R.ok_isfr d1 nbR r_whole
  have r_pow := K44R.ok_power (P := P) (w := w) (base := base) d2
  have r_trim := K44R.ok_trimmed (P := P) (w := w) (base := base) d3 nbR
  have r_scl := K44R.ok_scaled (P := P) (w := w) (base := base) d4 nbR
  have r_pt := K44R.ok_ptrim (P := P) (w := w) (base := base) d6 nbR
  have r_ex := K44R.ok_pexch d7 nbR r_trim r_pt
  have r_px := ok_putX d13 nb c_width r_scl r_pow r_pt
  have r_pp := ok_pput d13 nb c_width r_scl r_pow r_pt r_ex r_px
  have c_sex := sex_all d12 ct r_ex 10
  have c_exd := ok_exch d23 c_chk c_sex
  have c_sput := sput_all d14 r_pp 10
  have c_cl := ok_checkL d21 c_let
  have c_cf := ok_checkF d9 r_fr
  have c_pf := ok_putFor d24 c_chk c_cl c_cf c_sput
  have c_spush := spush_all (P := P) (w := w) (base := base) d15 ct 10
  have c_pu := ok_pushed d25 c_chk c_spush
  have c_well := ok_well (P := P) (w := w) (base := base) d26 nb
  have c_draw := ok_draw (P := P) (w := w) (base := base) d27 nb
  have c_pick := ok_pick d28 nb c_draw
  have c_share := K44R.ok_common (P := P) (w := w) (base := base) d29 nbR
  have c_lean := K44R.ok_lean d30 c_share
  have c_lrow := ok_lrow (P := P) (w := w) (base := base) d31 nb
  have c_num := ok_number d32 c_draw
  have c_lpoly := ok_lpoly d33 nb c_draw c_num c_lrow
  have c_leaf := ok_leaf d34 c_draw c_pick
  have c_made := made_all d35 nb c_draw c_pick c_leaf 10
  have c_turn := ok_turned d36 nb c_lrow
  have c_swap := swap_all d37 nb c_turn 10
  have c_lscl := ok_lscaled (P := P) (w := w) (base := base) d38
  have c_lput := ok_lput d39 nb c_lrow c_lscl
  have c_fill := fill_all d40 nb c_lput 10
  have c_led := led_all (P := P) (w := w) (base := base) d41 10
  have c_right := ok_right d42 nb c_draw c_pick c_lpoly c_made c_lean c_exd c_swap c_pf c_fill c_pu c_led c_do
  exact ok_law d43 nb c_well c_right
end K44
open PySem PySem.W PyProof.Rows
set_option maxHeartbeats 0 in
theorem PySem.Challenge.cw_twoletters_k44_whole_exchanged_put_and_p_holds : PySem.Challenge.rw_twoletters_k44_whole_exchanged_put_and_p.Holds := by
  w_on; o_law; k_head; (case hw => w_witness2)
  k_fill
  refine Tw.walk_quiet (l := PySem.Challenge.rw_twoletters_k44_whole_exchanged_put_and_p) (n := 63) (k := 20) (x := "_law_script") (sp := K44.spLaw) rfl (by decide) rfl ⟨rfl, by decide, by decide⟩ (fun w h Y => PySem.W.kIn_of Y) ?F
    (fun K H a ns hl _ hS => ⟨a, ns, rfl, hS, hl, fun _ => rfl⟩)
  case F =>
    intro w mg fa h KX G hmg
    refine' K44.with_tup2 (x := "LETTERS") (z1 := "x") (z2 := "y") KX G ?z ?l (fun s_ltr => ?_)
    (case z => k_is); (case l => k_is)
    refine' K44.with_int (x := "DEEPEST") (i := 10) KX G ?z (fun s_dee => ?_)
    (case z => k_is)
    refine' K44.with_int (x := "MOST_UNLIKE") (i := 8) KX G ?z (fun s_mun => ?_)
    (case z => k_is)
    refine' K44.with_int (x := "MOST_DEGREE") (i := 4) KX G ?z (fun s_mdg => ?_)
    (case z => k_is)
    refine' K44.with_rel (w := w) KX G ?a ?l ?k1 ?k2 ?k3 ?k4 ?k5 ?k6 ?lo (fun s_rel => ?_)
    (case a => k_is); (case l => k_is); (case k1 => rfl); (case k2 => rfl); (case k3 => rfl); (case k4 => rfl); (case k5 => rfl); (case k6 => rfl); (case lo => first | rfl | decide)
    refine' K44.with_OTHER (w := w) KX G ?a ?l ?k0 ?k1 (fun s_oth => ?_)
    (case a => k_is); (case l => k_is); (case k0 => rfl); (case k1 => rfl)
    refine' K44.with_OPPOSITE (w := w) KX G ?a ?l ?k0 ?k1 ?k2 ?k3 ?k4 ?k5 ?k6 ?k7 ?k8 ?k9 ?k10 ?k11 (fun s_opp => ?_)
    (case a => k_is); (case l => k_is); (case k0 => rfl); (case k1 => rfl); (case k2 => rfl); (case k3 => rfl); (case k4 => rfl); (case k5 => rfl); (case k6 => rfl); (case k7 => rfl); (case k8 => rfl); (case k9 => rfl); (case k10 => rfl); (case k11 => rfl)
    refine' Tw.with_def (x := "is_whole") (st := K44.sWhole) (ps := ["value"]) KX G ?a ?l ?c ?k (fun _ _ _ _ _ _ us hl => match us, hl with | [_], _ => rfl) (fun d0 => ?_)
    (case a => k_is); (case l => k_is); (case c => k_is); (case k => k_is)
    refine' Tw.with_def (x := "is_fraction") (st := K44.sFraction) (ps := ["value"]) KX G ?a ?l ?c ?k (fun _ _ _ _ _ _ us hl => match us, hl with | [_], _ => rfl) (fun d1 => ?_)
    (case a => k_is); (case l => k_is); (case c => k_is); (case k => k_is)
    refine' Tw.with_def (x := "power") (st := K44.sPower) (ps := ["base", "many"]) KX G ?a ?l ?c ?k (fun _ _ _ _ _ _ us hl => match us, hl with | [_, _], _ => rfl) (fun d2 => ?_)
    (case a => k_is); (case l => k_is); (case c => k_is); (case k => k_is)
    refine' Tw.with_def (x := "trimmed") (st := K44.sTrim) (ps := ["numbers"]) KX G ?a ?l ?c ?k (fun _ _ _ _ _ _ us hl => match us, hl with | [_], _ => rfl) (fun d3 => ?_)
    (case a => k_is); (case l => k_is); (case c => k_is); (case k => k_is)
    refine' Tw.with_def (x := "scaled_value") (st := K44.sScaled) (ps := ["row", "n", "m"]) KX G ?a ?l ?c ?k (fun _ _ _ _ _ _ us hl => match us, hl with | [_, _, _], _ => rfl) (fun d4 => ?_)
    (case a => k_is); (case l => k_is); (case c => k_is); (case k => k_is)
    refine' Tw.with_def (x := "is_row") (st := K44.sRow) (ps := ["value"]) KX G ?a ?l ?c ?k (fun _ _ _ _ _ _ us hl => match us, hl with | [_], _ => rfl) (fun d5 => ?_)
    (case a => k_is); (case l => k_is); (case c => k_is); (case k => k_is)
    refine' Tw.with_def (x := "poly_trimmed") (st := K44.sPTrim) (ps := ["rows"]) KX G ?a ?l ?c ?k (fun _ _ _ _ _ _ us hl => match us, hl with | [_], _ => rfl) (fun d6 => ?_)
    (case a => k_is); (case l => k_is); (case c => k_is); (case k => k_is)
    refine' Tw.with_def (x := "poly_exchanged") (st := K44.sPEx) (ps := ["poly"]) KX G ?a ?l ?c ?k (fun _ _ _ _ _ _ us hl => match us, hl with | [_], _ => rfl) (fun d7 => ?_)
    (case a => k_is); (case l => k_is); (case c => k_is); (case k => k_is)
    refine' Tw.with_def (x := "is_poly") (st := K44.sPoly) (ps := ["value"]) KX G ?a ?l ?c ?k (fun _ _ _ _ _ _ us hl => match us, hl with | [_], _ => rfl) (fun d8 => ?_)
    (case a => k_is); (case l => k_is); (case c => k_is); (case k => k_is)
    refine' Tw.with_def (x := "check_fraction") (st := K44.sCheckF) (ps := ["fraction"]) KX G ?a ?l ?c ?k (fun _ _ _ _ _ _ us hl => match us, hl with | [_], _ => rfl) (fun d9 => ?_)
    (case a => k_is); (case l => k_is); (case c => k_is); (case k => k_is)
    refine' Tw.with_def (x := "width_in_x") (st := K44.sWidth) (ps := ["poly"]) KX G ?a ?l ?c ?k (fun _ _ _ _ _ _ us hl => match us, hl with | [_], _ => rfl) (fun d10 => ?_)
    (case a => k_is); (case l => k_is); (case c => k_is); (case k => k_is)
    refine' Tw.with_def (x := "depth_in") (st := K44.sDepthIn) (ps := ["saying"]) KX G ?a ?l ?c ?k (fun _ _ _ _ _ _ us hl => match us, hl with | [_], _ => rfl) (fun d11 => ?_)
    (case a => k_is); (case l => k_is); (case c => k_is); (case k => k_is)
    refine' Tw.with_def (x := "says_exchanged") (st := K44.sSEx) (ps := ["saying"]) KX G ?a ?l ?c ?k (fun _ _ _ _ _ _ us hl => match us, hl with | [_], _ => rfl) (fun d12 => ?_)
    (case a => k_is); (case l => k_is); (case c => k_is); (case k => k_is)
    refine' Tw.with_def (x := "poly_put") (st := K44.sPPut) (ps := ["poly", "letter", "fraction"]) KX G ?a ?l ?c ?k (fun _ _ _ _ _ _ us hl => match us, hl with | [_, _, _], _ => rfl) (fun d13 => ?_)
    (case a => k_is); (case l => k_is); (case c => k_is); (case k => k_is)
    refine' Tw.with_def (x := "says_put") (st := K44.sSPut) (ps := ["saying", "letter", "fraction"]) KX G ?a ?l ?c ?k (fun _ _ _ _ _ _ us hl => match us, hl with | [_, _, _], _ => rfl) (fun d14 => ?_)
    (case a => k_is); (case l => k_is); (case c => k_is); (case k => k_is)
    refine' Tw.with_def (x := "says_pushed") (st := K44.sSPush) (ps := ["saying", "is_not"]) KX G ?a ?l ?c ?k (fun _ _ _ _ _ _ us hl => match us, hl with | [_, _], _ => rfl) (fun d15 => ?_)
    (case a => k_is); (case l => k_is); (case c => k_is); (case k => k_is)
    refine' Tw.with_def (x := "is_small_poly") (st := K44.sSmall) (ps := ["value"]) KX G ?a ?l ?c ?k (fun _ _ _ _ _ _ us hl => match us, hl with | [_], _ => rfl) (fun d16 => ?_)
    (case a => k_is); (case l => k_is); (case c => k_is); (case k => k_is)
    refine' Tw.with_def (x := "is_letter") (st := K44.sIsLetter) (ps := ["value"]) KX G ?a ?l ?c ?k (fun _ _ _ _ _ _ us hl => match us, hl with | [_], _ => rfl) (fun d17 => ?_)
    (case a => k_is); (case l => k_is); (case c => k_is); (case k => k_is)
    refine' Tw.with_def (x := "does_fit") (st := K44.sFit) (ps := ["value", "deep", "found"]) KX G ?a ?l ?c ?k (fun _ _ _ _ _ _ us hl => match us, hl with | [_, _, _], _ => rfl) (fun d18 => ?_)
    (case a => k_is); (case l => k_is); (case c => k_is); (case k => k_is)
    refine' Tw.with_def (x := "unlike_polys") (st := K44.sUnlike) (ps := ["saying"]) KX G ?a ?l ?c ?k (fun _ _ _ _ _ _ us hl => match us, hl with | [_], _ => rfl) (fun d19 => ?_)
    (case a => k_is); (case l => k_is); (case c => k_is); (case k => k_is)
    refine' Tw.with_def (x := "check_saying") (st := K44.sCheck) (ps := ["saying"]) KX G ?a ?l ?c ?k (fun _ _ _ _ _ _ us hl => match us, hl with | [_], _ => rfl) (fun d20 => ?_)
    (case a => k_is); (case l => k_is); (case c => k_is); (case k => k_is)
    refine' Tw.with_def (x := "check_letter") (st := K44.sCheckL) (ps := ["letter"]) KX G ?a ?l ?c ?k (fun _ _ _ _ _ _ us hl => match us, hl with | [_], _ => rfl) (fun d21 => ?_)
    (case a => k_is); (case l => k_is); (case c => k_is); (case k => k_is)
    refine' Tw.with_def (x := "depth_of") (st := K44.sDepthOf) (ps := ["saying"]) KX G ?a ?l ?c ?k (fun _ _ _ _ _ _ us hl => match us, hl with | [_], _ => rfl) (fun d22 => ?_)
    (case a => k_is); (case l => k_is); (case c => k_is); (case k => k_is)
    refine' Tw.with_def (x := "exchanged") (st := K44.sExch) (ps := ["saying"]) KX G ?a ?l ?c ?k (fun _ _ _ _ _ _ us hl => match us, hl with | [_], _ => rfl) (fun d23 => ?_)
    (case a => k_is); (case l => k_is); (case c => k_is); (case k => k_is)
    refine' Tw.with_def (x := "put_for") (st := K44.sPutFor) (ps := ["saying", "letter", "fraction"]) KX G ?a ?l ?c ?k (fun _ _ _ _ _ _ us hl => match us, hl with | [_, _, _], _ => rfl) (fun d24 => ?_)
    (case a => k_is); (case l => k_is); (case c => k_is); (case k => k_is)
    refine' Tw.with_def (x := "pushed") (st := K44.sPushed) (ps := ["saying"]) KX G ?a ?l ?c ?k (fun _ _ _ _ _ _ us hl => match us, hl with | [_], _ => rfl) (fun d25 => ?_)
    (case a => k_is); (case l => k_is); (case c => k_is); (case k => k_is)
    refine' Tw.with_def (x := "_law_well") (st := K44.sWell) (ps := ["_law_script", "_law_at"]) KX G ?a ?l ?c ?k (fun _ _ _ _ _ _ us hl => match us, hl with | [_, _], _ => rfl) (fun d26 => ?_)
    (case a => k_is); (case l => k_is); (case c => k_is); (case k => k_is)
    refine' Tw.with_def (x := "_law_draw") (st := K44.sDraw) (ps := ["_law_well_here", "_law_many"]) KX G ?a ?l ?c ?k (fun _ _ _ _ _ _ us hl => match us, hl with | [_, _], _ => rfl) (fun d27 => ?_)
    (case a => k_is); (case l => k_is); (case c => k_is); (case k => k_is)
    refine' Tw.with_def (x := "_law_pick") (st := K44.sPick) (ps := ["_law_well_here", "_law_some"]) KX G ?a ?l ?c ?k (fun _ _ _ _ _ _ us hl => match us, hl with | [_, _], _ => rfl) (fun d28 => ?_)
    (case a => k_is); (case l => k_is); (case c => k_is); (case k => k_is)
    refine' Tw.with_def (x := "_law_share") (st := K44.sShare) (ps := ["_law_one", "_law_two"]) KX G ?a ?l ?c ?k (fun _ _ _ _ _ _ us hl => match us, hl with | [_, _], _ => rfl) (fun d29 => ?_)
    (case a => k_is); (case l => k_is); (case c => k_is); (case k => k_is)
    refine' Tw.with_def (x := "_law_lean") (st := K44.sLean) (ps := ["_law_top", "_law_low"]) KX G ?a ?l ?c ?k (fun _ _ _ _ _ _ us hl => match us, hl with | [_, _], _ => rfl) (fun d30 => ?_)
    (case a => k_is); (case l => k_is); (case c => k_is); (case k => k_is)
    refine' Tw.with_def (x := "_law_row") (st := K44.sLRow) (ps := ["_law_some"]) KX G ?a ?l ?c ?k (fun _ _ _ _ _ _ us hl => match us, hl with | [_], _ => rfl) (fun d31 => ?_)
    (case a => k_is); (case l => k_is); (case c => k_is); (case k => k_is)
    refine' Tw.with_def (x := "_law_number") (st := K44.sNumber) (ps := ["_law_well_here"]) KX G ?a ?l ?c ?k (fun _ _ _ _ _ _ us hl => match us, hl with | [_], _ => rfl) (fun d32 => ?_)
    (case a => k_is); (case l => k_is); (case c => k_is); (case k => k_is)
    refine' Tw.with_def (x := "_law_poly") (st := K44.sLPoly) (ps := ["_law_well_here"]) KX G ?a ?l ?c ?k (fun _ _ _ _ _ _ us hl => match us, hl with | [_], _ => rfl) (fun d33 => ?_)
    (case a => k_is); (case l => k_is); (case c => k_is); (case k => k_is)
    refine' Tw.with_def (x := "_law_leaf") (st := K44.sLeaf) (ps := ["_law_well_here", "_law_some"]) KX G ?a ?l ?c ?k (fun _ _ _ _ _ _ us hl => match us, hl with | [_, _], _ => rfl) (fun d34 => ?_)
    (case a => k_is); (case l => k_is); (case c => k_is); (case k => k_is)
    refine' Tw.with_def (x := "_law_made") (st := K44.sMade) (ps := ["_law_well_here", "_law_some", "_law_deep"]) KX G ?a ?l ?c ?k (fun _ _ _ _ _ _ us hl => match us, hl with | [_, _, _], _ => rfl) (fun d35 => ?_)
    (case a => k_is); (case l => k_is); (case c => k_is); (case k => k_is)
    refine' Tw.with_def (x := "_law_turned") (st := K44.sTurned) (ps := ["_law_poly_here"]) KX G ?a ?l ?c ?k (fun _ _ _ _ _ _ us hl => match us, hl with | [_], _ => rfl) (fun d36 => ?_)
    (case a => k_is); (case l => k_is); (case c => k_is); (case k => k_is)
    refine' Tw.with_def (x := "_law_swapped") (st := K44.sSwapped) (ps := ["_law_said"]) KX G ?a ?l ?c ?k (fun _ _ _ _ _ _ us hl => match us, hl with | [_], _ => rfl) (fun d37 => ?_)
    (case a => k_is); (case l => k_is); (case c => k_is); (case k => k_is)
    refine' Tw.with_def (x := "_law_scaled") (st := K44.sLScaled) (ps := ["_law_row_here", "_law_spot"]) KX G ?a ?l ?c ?k (fun _ _ _ _ _ _ us hl => match us, hl with | [_, _], _ => rfl) (fun d38 => ?_)
    (case a => k_is); (case l => k_is); (case c => k_is); (case k => k_is)
    refine' Tw.with_def (x := "_law_put") (st := K44.sLPut) (ps := ["_law_poly_here", "_law_letter", "_law_spot"]) KX G ?a ?l ?c ?k (fun _ _ _ _ _ _ us hl => match us, hl with | [_, _, _], _ => rfl) (fun d39 => ?_)
    (case a => k_is); (case l => k_is); (case c => k_is); (case k => k_is)
    refine' Tw.with_def (x := "_law_filled") (st := K44.sFilled) (ps := ["_law_said", "_law_letter", "_law_spot"]) KX G ?a ?l ?c ?k (fun _ _ _ _ _ _ us hl => match us, hl with | [_, _, _], _ => rfl) (fun d40 => ?_)
    (case a => k_is); (case l => k_is); (case c => k_is); (case k => k_is)
    refine' Tw.with_def (x := "_law_led") (st := K44.sLed) (ps := ["_law_said", "_law_is_not"]) KX G ?a ?l ?c ?k (fun _ _ _ _ _ _ us hl => match us, hl with | [_, _], _ => rfl) (fun d41 => ?_)
    (case a => k_is); (case l => k_is); (case c => k_is); (case k => k_is)
    refine' Tw.with_def (x := "_law_right") (st := K44.sRight) (ps := ["_law_well_here"]) KX G ?a ?l ?c ?k (fun _ _ _ _ _ _ us hl => match us, hl with | [_], _ => rfl) (fun d42 => ?_)
    (case a => k_is); (case l => k_is); (case c => k_is); (case k => k_is)
    refine' Tw.with_def (x := "law") (st := K44.sLaw) (ps := ["_law_script"]) KX G ?a ?l ?c ?k (fun _ _ _ _ _ _ us hl => match us, hl with | [_], _ => rfl) (fun d43 => ?_)
    (case a => k_is); (case l => k_is); (case c => k_is); (case k => k_is)
    refine' Tw.with_no (x := "isinstance") KX G ?z (fun z0 => ?_)
    (case z => k_is)
    refine' Tw.with_no (x := "int") KX G ?z (fun z1 => ?_)
    (case z => k_is)
    refine' Tw.with_no (x := "bool") KX G ?z (fun z2 => ?_)
    (case z => k_is)
    refine' Tw.with_no (x := "str") KX G ?z (fun z3 => ?_)
    (case z => k_is)
    refine' Tw.with_no (x := "tuple") KX G ?z (fun z4 => ?_)
    (case z => k_is)
    refine' Tw.with_no (x := "all") KX G ?z (fun z5 => ?_)
    (case z => k_is)
    refine' Tw.with_no (x := "len") KX G ?z (fun z6 => ?_)
    (case z => k_is)
    refine' Tw.with_no (x := "list") KX G ?z (fun z7 => ?_)
    (case z => k_is)
    refine' Tw.with_no (x := "divmod") KX G ?z (fun z8 => ?_)
    (case z => k_is)
    refine' Tw.with_no (x := "range") KX G ?z (fun z9 => ?_)
    (case z => k_is)
    refine' Tw.with_no (x := "max") KX G ?z (fun z10 => ?_)
    (case z => k_is)
    refine' Tw.with_no (x := "min") KX G ?z (fun z11 => ?_)
    (case z => k_is)
    refine' Tw.with_no (x := "abs") KX G ?z (fun z12 => ?_)
    (case z => k_is)
    refine' Tw.with_no (x := "repr") KX G ?z (fun z13 => ?_)
    (case z => k_is)
    refine' Tw.with_no (x := "reversed") KX G ?z (fun z14 => ?_)
    (case z => k_is)
    refine' K44.with_val (x := "gcd") (v := .builtin "math.gcd") KX G ?z (fun zg => ?_)
    (case z => k_is)
    exact Tw.end_law d43 hmg (fun base => K44.whole ⟨z0, z1, z2, z3, z4, z5, z6, z7, z8, z9, z10, z11, z12, z13, z14⟩ ⟨z0, z1, z2, z4, z5, z6, z7, z8, z9, z10, z11, z12, z13, z14, zg⟩ ⟨s_ltr, s_rel, s_dee, s_mun, s_mdg⟩ ⟨s_oth, s_opp⟩ d0 d1 d2 d3 d4 d5 d6 d7 d8 d9 d10 d11 d12 d13 d14 d15 d16 d17 d18 d19 d20 d21 d22 d23 d24 d25 d26 d27 d28 d29 d30 d31 d32 d33 d34 d35 d36 d37 d38 d39 d40 d41 d42 d43 base) (fun _ _ _ _ _ _ _ => rfl)
