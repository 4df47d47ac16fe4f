import PyProof.Rows.All
import Wide.All
import OpenK.AllK
import Wide.FinOn
import HandS.ForMost
import HandS.IsInst
import HandS.TupAny
import HandS.Flow
import HandS.Evl
import HandS.TupMul
import HandS.SortKw
import HandS.WideBits
import HandS.Gcd
import HandS.Rev
import HandS.Style
import KE.DataMinMax
import KE.GoesMore
import PyProof.Draws
import PyProof.CallFns
import PySem.Challenge.RW_twoletters_k02_rows_of_anything_and_thei
set_option Elab.async false
set_option linter.all false
set_option maxRecDepth 100000
set_option maxHeartbeats 4000000
/-! a def's promise where no container is being written out (for repr) -/
namespace Tw
open PySem PySem.Spec PyProof.Rows L2

/-- nothing is being written out around here -/
abbrev Qt (A : Around) : Prop := A.guards = some []

structure FnG (P : Program) (w : World) (K : PySem.W.Frag) (mg : Str → Option Value) (base : Heap) (k : Nat) (f : Addr)
    (fd : FuncData) (ps : List Str) (sp : Sp) : Prop where
  many : ∀ vs H Q E, sp vs H Q E → vs.length = ps.length
  goes : ∀ (A : Around) (out : List Env) (s : Shared) (H : Hp) (g : Args) (us : List Value) (vs : List V) (Q : VK) (E : XK),
    Qt A → Room k A → Env0 P w K mg base A out s H → BindsTo s fd g (ps.zip us) → Vals vs us → sp vs H Q E →
    codeAny (model P w) A (.call (.ref f) g) (CR CX0 out P w H s Q E) s

section
variable {P : Program} {w : World} {K : PySem.W.Frag} {mg : Str → Option Value} {base : Heap} {k j : Nat} {f : Addr}
  {fd : FuncData} {ps : List Str} {sp : Sp}
theorem FnG.of (F : FnOk P w K mg base CX0 k f fd ps sp) : FnG P w K mg base k f fd ps sp :=
  ⟨F.len, fun A out s H g us vs Q E _ hr => F.run A out s H g us vs Q E hr⟩
theorem FnG.up (F : FnG P w K mg base j f fd ps sp) (h : j ≤ k) : FnG P w K mg base k f fd ps sp :=
  ⟨F.many, fun A out s H g us vs Q E hq hr => F.goes A out s H g us vs Q E hq (hr.mono h)⟩
theorem FnG.imp {sp' : Sp} (F : FnG P w K mg base k f fd ps sp) (h : ∀ vs H Q E, sp' vs H Q E → sp vs H Q E) :
    FnG P w K mg base k f fd ps sp' :=
  ⟨fun vs H Q E q => F.many vs H Q E (h _ _ _ _ q),
   fun A out s H g us vs Q E hq hr he hb hv hs => F.goes A out s H g us vs Q E hq hr he hb hv (h _ _ _ _ hs)⟩

/-- a def by its body, the place where it runs being quiet -/
theorem Fun.okG {x qual : Str} {st : Stmt} {N : List Str} (F : Fun K x qual st f fd) (S : FnScope N ps (defScope st))
    (many : ∀ vs H Q E, sp vs H Q E → vs.length = ps.length)
    (hbody : ∀ (cdv : Value) (A : Around) (out : List Env) (s : Shared) (H : Hp) (vs : List V) (Q : VK) (E : XK),
      Qt (A.deeper (envOfC qual (defScope st) s.heap.objs.size f cdv)) →
      Room k (A.deeper (envOfC qual (defScope st) s.heap.objs.size f cdv)) → sp vs H Q E →
      ∃ t, PSs (cxOf CX0 P w K mg base N qual (defScope st) f cdv A out s H E).nox (defBody st) t ∧
        t { nx := fun _ H' => Q .non H', rt := Q } (start N vs) H) : FnG P w K mg base (k + 1) f fd ps sp := by
  obtain ⟨oc, od, kV, doc, pm, an, cdv, ct, osl, rfl, lk, hcd⟩ := F.ex
  refine ⟨many, fun A out s H g us vs Q E hq hr e0 hb r hsp => ?_⟩
  have hlen : vs.length = ps.length := many _ _ _ _ hsp
  have inS : ∀ b o, base.get? b = some o → s.heap.get? b = some o := fun b o e => (e0.bs b o e).1
  have kx : K.In s.heap := e0.mod.kin.keeps inS
  have nolim : s.heap.NoLimit := e0.mod.nolimit.keeps inS
  have kinds : ∀ y ∈ ps.zip us, (defScope st).names.lookup y.1 = some .local ∨
      ((defScope st).names.lookup y.1 = some .cell ∧
        ((cellsFrom (s.heap.objs.size + 1) (defScope st).names []).lookup y.1).isSome = true) := by
    rintro ⟨n, v⟩ hy
    cases S.par n (List.of_mem_zip hy).1 with
    | inl q => exact Or.inl q
    | inr q => exact Or.inr ⟨q, PySem.W.cellsFrom_some _ _ _ (Or.inl q)⟩
  have rec1 := PySem.W.codeRec_of kx hcd
  refine codeAny_call_function hr.depth (kx _ _ lk) rfl S.co S.gen rfl rec1 (hb _ _ _ _ ?_)
  refine wpAny_newFunctionEnv_cells S.kind kinds fun env he s1 x => ?_
  subst he
  refine ⟨nolim.keeps x.toInCall.keep, codeAny_func ?_⟩
  have hq' : Qt (A.deeper (envOfC qual (defScope st) s.heap.objs.size f cdv)) := hq
  obtain ⟨t, ht, hw⟩ := hbody cdv A out s H vs Q E hq' (hr.deeper _) hsp
  have I := inv_start (CX := CX0) (cd := cdv) (E := E) (f := f) (qual := qual) S hr.hd e0 hlen r x
  refine wpAny_mono (ht.nox.run [] s1 (start N vs) H _ I hw) (fun fl s' hs => ?_) fun e s' hs => hs
  cases fl with
  | ret u => obtain ⟨v, σ', H', J, rv, q⟩ := hs; exact ⟨v, H', J.os, J.bare, J.base, J.hok, rv, q⟩
  | next => obtain ⟨σ', H', J, q⟩ := hs; exact ⟨V.non, H', J.os, J.bare, J.base, J.hok, rfl, q⟩
  | brk => obtain ⟨_, _, _, q⟩ := hs; exact q.elim
  | cont => obtain ⟨_, _, _, q⟩ := hs; exact q.elim
end

section
variable {X : Cx} {k : Nat} {f : Addr} {fd : FuncData} {ps : List Str} {sp : Sp} {x : Str} {p pos : Pos} {e : Expr}
  {es : List Expr} {t : TA}
/-- f(e, ..), f a def that wants quiet -/
theorem pe_callG (F : FnG X.prog X.w X.K X.mg X.base k f fd ps sp) (hq : Qt X.A) (hr : Room k X.A) (hg : Gl X x)
    (hm : X.mg x = some (.ref f)) (hk : PySem.W.keepIn X.K (.ref f) = true) (hb : Binds X.K fd ps [])
    (ha : PA X (e :: es) t) (hdb : (x == ("__debug__" : Str)) = false := by decide)
    (he : starEach (e :: es) X.env = (false, eval e X.env) :: starEach es X.env := by rfl)
    (hpl : (backTo pos (starEach es X.env)).any (·.1) = false := by rfl) :
    PE X (.Call (.Name x p) (e :: es) [] pos) (tCall sp [] E0 t) := by
  refine ⟨fun pins s σ H Q I h => wpAny_Call_Name_kw (ld_glob I hg hm ?_ hdb)⟩
  refine PySem.W.callWith_K (h₀ := X.base) I.ok.mod.kin hk ?_ he hpl
  refine thn (ha.run pos pins s σ H _ I h) ?_
  rintro us s1 ⟨vs, H1, I1, r, q⟩
  refine ⟨I1.kIn, wpAny_call ?_⟩
  have q' : sp vs H1 Q E0 := by simpa using q
  have hl : us.length = ps.length := by rw [← Vals.length r]; exact F.many _ _ _ _ q'
  have b := hb s1 us I1.kIn (by simpa using hl)
  rw [List.append_nil] at b
  refine codeAny_mono (F.goes X.A X.stack s1 H1 ⟨us, []⟩ us vs Q E0 hq hr I1.env0 b r q') fun r s' hh => ?_
  cases r with
  | error z => exact False.elim hh
  | ok fl =>
    cases fl with
    | ret u => exact I1.after hh
    | next => exact False.elim hh
    | brk => exact False.elim hh
    | cont => exact False.elim hh
end
end Tw

set_option Elab.async false
set_option linter.all false
set_option maxRecDepth 100000
set_option maxHeartbeats 4000000
/-! the end of a law whose def wants quiet -/
namespace Tw
open PySem PySem.Spec PyProof.Rows L2

/-- a promise wide enough that says nothing of exceptions, over a heap in which the script alone may be known -/
theorem law_quiet {P : Program} {w : World} {K : PySem.W.Frag} {mg mb : Str → Option Value} {k : Nat} {fa a : Addr} {fd : FuncData}
    {x : Str} {sp : Sp} {s₁ : Shared} {vs : List Value} {ns : List Int} (KX : K.In s₁.heap) (hns : s₁.heap.Ns mainGlobals mg)
    (hb : s₁.heap.Ns builtinsNs mb) (hbb : ∀ x : Str, x ≠ "__name__" → mb x = bootBuiltins x) (hlim : s₁.heap.NoLimit)
    (hg : s₁.gens = #[]) (ha : s₁.heap.get? a = some { cls := .type "list", data := .seq vs.toArray }) (hi : IntsAre vs ns)
    (hl : ns.length ≤ sizeLine) (hr : Room k callerA)
    (F : ∀ base : Heap, K.In base → base.Ns mainGlobals mg → FnG P w K mg base k fa fd [x] sp)
    (hbind : ∀ (s : Shared) (u : Value), BindsTo s fd ⟨[u], []⟩ [(x, u)])
    (hsp : ∀ H : Hp, Only H → SqL K H a (ns.map V.int) → sp [.ref a] H (fun v _ => v = .bl true) E0) :
    codeAny (model P w) callerA (.call (.ref fa) ⟨[.ref a], []⟩)
      (fun r s' => r = .ok (.ret (.bool true)) ∧ OldK s₁.heap s'.heap ∧ s'.os = s₁.os ∧ AllBare s'.gens) s₁ := by
  have hv := vals_ints hi
  have hn := hi.length
  have main : ∀ H : Hp, Only H → SqL K H a (ns.map V.int) → HOk P w H s₁.heap → (∀ b u, H b = some u → b = a ∧ K.lookup a = none) →
      codeAny (model P w) callerA (.call (.ref fa) ⟨[.ref a], []⟩)
        (fun r s' => r = .ok (.ret (.bool true)) ∧ OldK s₁.heap s'.heap ∧ s'.os = s₁.os ∧ AllBare s'.gens) s₁ := by
    intro H hO hS hok hA
    have dictFree : ∀ {b : Addr} {o : Obj} {es : Array DictEntry} {ep : Nat},
        s₁.heap.get? b = some o → o.data = .dict es ep → H b = none := by
      intro b o es ep e d
      cases q : H b with
      | none => rfl
      | some u =>
        obtain ⟨e1, _⟩ := hA b u q
        rw [e1, ha] at e
        injection e with e
        rw [← e] at d
        exact absurd d (by intro z; cases z)
    have nsB : ∀ {b : Addr} {m : Str → Option Value}, s₁.heap.Ns b m → (hidT s₁.heap H).Ns b m := by
      rintro b m ⟨o, es, ep, e, d, r⟩
      exact ⟨o, es, ep, hidT_get e (dictFree e d), d, r⟩
    have kB : K.In (hidT s₁.heap H) := by
      intro b o e
      refine hidT_get (KX b o e) ?_
      cases q : H b with
      | none => rfl
      | some u =>
        obtain ⟨e1, e2⟩ := hA b u q
        rw [e1, e2] at e
        cases e
    have hM : Mod K mg (hidT s₁.heap H) := by
      obtain ⟨mc, l1, l2⟩ := hlim
      exact ⟨kB, nsB hns, ⟨mb, nsB hb, hbb⟩, ⟨mc, nsB l1, l2⟩⟩
    have noB : ∀ b : Addr, b ∈ frs ([] : List Env) → False := fun b z => by simp [frs] at z
    have e0 : Env0 P w K mg (hidT s₁.heap H) callerA [] s₁ H :=
      ⟨rfl, hM, fun b o e => of_hidT e, Nat.le_of_eq (hidT_size _ _), trivial, fun b z => (noB b z).elim, hok, .of_eq hg⟩
    have go := (F _ kB (nsB hns)).goes callerA [] s₁ H ⟨[.ref a], []⟩ [.ref a] [.ref a] (fun v _ => v = .bl true) E0 rfl hr e0
      (hbind s₁ (.ref a)) (.cons rfl .nil) (hsp H hO hS)
    refine codeAny_mono go fun r s' h => ?_
    cases r with
    | error e => exact False.elim h
    | ok fl =>
      cases fl with
      | next => exact False.elim h
      | brk => exact False.elim h
      | cont => exact False.elim h
      | ret u =>
        obtain ⟨v, H', os, bare, un, hok', rv, q⟩ := h
        subst q
        cases (show u = Value.bool true from rv)
        refine ⟨rfl, OldK.of_keep fun b o e => ?_, os, bare⟩
        cases q : H b with
        | none => exact un.keep b o e q (fun z => noB b z) (by simp)
        | some u =>
          cases hO b with
          | inl z => rw [q] at z; cases z
          | inr z =>
            obtain ⟨ob, xs, z⟩ := z
            have f1 := (hok b _ z).1
            have f2 := (hok' b _ (un.frzs b ob _ z)).1
            rw [e] at f1
            rw [f2, ← f1]
  cases hk : K.lookup a with
  | some o =>
    have e := KX a o hk
    rw [ha] at e
    injection e with e
    subst e
    refine main (fun _ => none) (fun _ => Or.inl rfl) (Or.inr ⟨_, vs.toArray, _, hk, rfl, rfl, rfl, ?_, by simpa using hv⟩) ?_ ?_
    · rw [List.size_toArray, hn]; exact hl
    · intro b u z; exact absurd z (by intro y; cases y)
    · intro b u z; exact absurd z (by intro y; cases y)
  | none =>
    let Ha : Hp := fun b => if b = a then some (.frz { cls := .type "list", data := .seq vs.toArray } (.lst (ns.map V.int))) else none
    have ya : ∀ b, b = a → Ha b = some (.frz { cls := .type "list", data := .seq vs.toArray } (.lst (ns.map V.int))) := fun b h => if_pos h
    have na : ∀ b, b ≠ a → Ha b = none := fun b h => if_neg h
    refine main Ha (fun b => ?_) (Or.inl (Or.inr ⟨_, ya a rfl⟩)) (fun b u z => ?_) (fun b u z => ?_)
    · by_cases h : b = a
      · exact Or.inr ⟨_, _, ya b h⟩
      · exact Or.inl (na b h)
    · by_cases h : b = a
      · rw [ya b h] at z
        injection z with z
        subst z h
        exact ⟨ha, by rw [List.length_map]; exact hl, vs, _, hv, ha⟩
      · rw [na b h] at z; cases z
    · by_cases h : b = a
      · exact ⟨h, hk⟩
      · rw [na b h] at z; cases z

theorem walk_quiet {l : PySem.W.OpenLaw} {n k : Nat} {q : Program} {loose : List Str} {XP : (Str → Option Value) → Heap → Prop}
    {YP : World → Heap → Prop} {d : DefRec} {K : Params → PySem.W.Frag} {sp : PySem.W.Frag → Sp} {x : Str} (hn : l.most = some n)
    (hn2 : n ≤ sizeLine) (hdf : d.params.defaults = []) (hr : Room k callerA)
    (hY : ∀ (w : World) (h : Heap), YP w h → (K w.params).In h)
    (F : ∀ (w : World) (mg : Str → Option Value) (fa : Addr) (h : Heap), (K w.params).In h → h.Ns mainGlobals mg →
      mg d.name = some (.ref fa) → ∃ fd : FuncData, (∀ (s : Shared) (u : Value), BindsTo s fd ⟨[u], []⟩ [(x, u)]) ∧
        ∀ base : Heap, (K w.params).In base → base.Ns mainGlobals mg → FnG l.prog w (K w.params) mg base k fa fd [x] (sp (K w.params)))
    (hsp : ∀ (K : PySem.W.Frag) (H : Hp) (a : Addr) (ns : List Int), ns.length ≤ n → Only H → SqL K H a (ns.map V.int) →
      sp K [.ref a] H (fun v _ => v = .bl true) E0) :
    PySem.W.WalkO q loose XP YP l.row.toRowW d [] (fun f vs => PySem.call f vs) := by
  refine Att.attach_call hn hdf ?_
  intro w s₀ s₁ mg mb fa o pm cd doc a vs ns G Y ho hd hcd hmg hobj hints hlen hg
  have kx := hY w _ Y
  obtain ⟨fd, hb, hF⟩ := F w mg fa _ kx G.T.g hmg
  exact law_quiet kx G.T.g G.T.b G.T.builtins G.T.nolimit hg hobj hints (Nat.le_trans hlen hn2) hr hF hb
    fun H hO hS => hsp _ H a ns hlen hO hS
end Tw

set_option Elab.async false
set_option linter.all false
set_option maxRecDepth 100000
set_option maxHeartbeats 4000000
/-! data: what a value is, over the heap; the well at a -/
namespace Tw
open PySem PySem.Spec PyProof.Rows L2

/-- all that was known is known, but for what stands at a -/
def Kp (a : Addr) (H H' : Hp) : Prop := ∀ b o, b ≠ a → H b = some o → H' b = some o
/-- the well: a list of three ints -/
def We (a : Addr) (H : Hp) : Prop := ∃ x y z : Int, H a = some (.lst [.int x, .int y, .int z])
theorem Kp.refl (a : Addr) (H : Hp) : Kp a H H := fun _ _ _ h => h
theorem Kp.trans {a : Addr} {H H1 H2 : Hp} (x : Kp a H H1) (y : Kp a H1 H2) : Kp a H H2 := fun b o n h => y b o n (x b o n h)
theorem Kp.of {a : Addr} {H H' : Hp} (x : Same H H') : Kp a H H' := fun b o _ h => x b o h
theorem We.to {a : Addr} {H H' : Hp} (x : Same H H') (w : We a H) : We a H' := by
  obtain ⟨i, j, k, h⟩ := w
  exact ⟨i, j, k, x _ _ h⟩
theorem We.ne {a p : Addr} {H : Hp} (w : We a H) (h : H p = none) : p ≠ a := by
  obtain ⟨i, j, k, e⟩ := w
  exact fun z => by rw [z, e] at h; cases h
theorem We.some {a : Addr} {H : Hp} (w : We a H) : H a ≠ none := by
  obtain ⟨i, j, k, e⟩ := w
  rw [e]
  exact fun z => by cases z
theorem same_new {H : Hp} {p : Addr} {o : HO} (h : H p = none) : Same H (upd H p o) := fun b u e => by
  rw [upd_ne (ne_of_none e h)]; exact e
theorem kp_new {a : Addr} {H : Hp} {p : Addr} {o : HO} (h : H p = none) : Kp a H (upd H p o) := Kp.of (same_new h)
theorem we_new {a : Addr} {H : Hp} {p : Addr} {o : HO} (w : We a H) (h : H p = none) : We a (upd H p o) := w.to (same_new h)
theorem sz {n : Nat} (h : n ≤ 100000) : n ≤ sizeLine := Nat.le_trans h (by decide)

mutual
/-- the value is the datum; nothing of it is the well -/
inductive Da (a : Addr) (H : Hp) : V → PyData → Prop
  | non : Da a H .non .none
  | bl (b : Bool) : Da a H (.bl b) (.bool b)
  | int (i : Int) : Da a H (.int i) (.int i)
  | str (x : Str) : Da a H (.str x) (.str x)
  | lst {p : Addr} {xs : List V} {ds : List PyData} : p ≠ a → H p = some (.lst xs) → DaAll a H xs ds → Da a H (.ref p) (.list ds)
  | tup {p : Addr} {xs : List V} {ds : List PyData} : p ≠ a → H p = some (.tup xs) → DaAll a H xs ds → Da a H (.ref p) (.tuple ds)
  | dct {p : Addr} : p ≠ a → H p = some (.dK []) → Da a H (.ref p) (.dict [])
inductive DaAll (a : Addr) (H : Hp) : List V → List PyData → Prop
  | nil : DaAll a H [] []
  | cons {v : V} {vs : List V} {d : PyData} {ds : List PyData} : Da a H v d → DaAll a H vs ds → DaAll a H (v :: vs) (d :: ds)
end
section
variable {a : Addr} {H H' : Hp}
mutual
theorem Da.kp (k : Kp a H H') : ∀ {v : V} {d : PyData}, Da a H v d → Da a H' v d
  | _, _, .non => .non
  | _, _, .bl b => .bl b
  | _, _, .int i => .int i
  | _, _, .str x => .str x
  | _, _, .lst n h t => .lst n (k _ _ n h) (DaAll.kp k t)
  | _, _, .tup n h t => .tup n (k _ _ n h) (DaAll.kp k t)
  | _, _, .dct n h => .dct n (k _ _ n h)
theorem DaAll.kp (k : Kp a H H') : ∀ {vs : List V} {ds : List PyData}, DaAll a H vs ds → DaAll a H' vs ds
  | _, _, .nil => .nil
  | _, _, .cons h t => .cons (Da.kp k h) (DaAll.kp k t)
end
theorem Da.same (s : Same H H') {v : V} {d : PyData} (h : Da a H v d) : Da a H' v d := h.kp (Kp.of s)
theorem DaAll.same (s : Same H H') {v : List V} {d : List PyData} (h : DaAll a H v d) : DaAll a H' v d := h.kp (Kp.of s)
theorem DaAll.len : ∀ {vs : List V} {ds : List PyData}, DaAll a H vs ds → vs.length = ds.length
  | _, _, .nil => rfl
  | _, _, .cons _ t => congrArg Nat.succ t.len
theorem DaAll.get : ∀ {vs : List V} {ds : List PyData} {i : Nat} {v : V}, DaAll a H vs ds → vs[i]? = some v → ∃ d, ds[i]? = some d ∧ Da a H v d
  | _, _, _, _, .nil, h => by simp at h
  | _, _, 0, _, .cons h _, e => by simp at e; subst e; exact ⟨_, rfl, h⟩
  | _, _, i + 1, _, .cons _ t, e => by
    obtain ⟨d, h1, h2⟩ := t.get (i := i) (by simpa using e)
    exact ⟨d, by simpa using h1, h2⟩
theorem DaAll.append : ∀ {vs ws : List V} {ds es : List PyData}, DaAll a H vs ds → DaAll a H ws es → DaAll a H (vs ++ ws) (ds ++ es)
  | _, _, _, _, .nil, t => t
  | _, _, _, _, .cons h t, u => .cons h (t.append u)
theorem DaAll.drop : ∀ {vs : List V} {ds : List PyData} (n : Nat), DaAll a H vs ds → DaAll a H (vs.drop n) (ds.drop n)
  | _, _, 0, h => h
  | _, _, _ + 1, .nil => .nil
  | _, _, n + 1, .cons _ t => t.drop n
theorem DaAll.take : ∀ {vs : List V} {ds : List PyData} (n : Nat), DaAll a H vs ds → DaAll a H (vs.take n) (ds.take n)
  | _, _, 0, _ => .nil
  | _, _, _ + 1, .nil => .nil
  | _, _, n + 1, .cons h t => .cons h (t.take n)
theorem DaAll.rev : ∀ {vs : List V} {ds : List PyData}, DaAll a H vs ds → DaAll a H vs.reverse ds.reverse
  | _, _, .nil => .nil
  | _, _, .cons h t => by
    rw [List.reverse_cons, List.reverse_cons]
    exact t.rev.append (.cons h .nil)
/-- a slice of the values, of the data -/
def cutD (ds : List PyData) (lo hi : Option Int) : List PyData := (ds.drop (HT.sIx ds.length 0 lo)).take (HT.sIx ds.length ds.length hi - HT.sIx ds.length 0 lo)
theorem DaAll.cut {vs : List V} {ds : List PyData} (lo hi : Option Int) (h : DaAll a H vs ds) : DaAll a H (cutV vs lo hi) (cutD ds lo hi) := by
  unfold cutV cutD
  rw [h.len]
  exact (h.drop _).take _

mutual
theorem Da.dp {K : PySem.W.Frag} : ∀ {v : V} {d : PyData}, Da a H v d → d.canLay0 = true → Dp K H v d
  | _, _, .non, _ => .non
  | _, _, .bl b, _ => .bl b
  | _, _, .int i, _ => .int i
  | _, _, .str x, _ => .str x
  | _, _, .lst n h t, c => .lst (SqL.of h) (DaAll.dp t (by simpa [PyData.canLay0] using c))
  | _, _, .tup n h t, c => .tup (SqT.of h) (DaAll.dp t (by simpa [PyData.canLay0] using c))
  | _, _, .dct n h, c => by simp [PyData.canLay0] at c
theorem DaAll.dp {K : PySem.W.Frag} : ∀ {vs : List V} {ds : List PyData}, DaAll a H vs ds → PyData.canLayAll0 ds = true → DpAll K H vs ds
  | _, _, .nil, _ => .nil
  | _, _, .cons (d := d) (ds := ds) h t, c => by
    have c' : d.canLay0 = true ∧ PyData.canLayAll0 ds = true := by simpa [PyData.canLayAll0] using c
    exact .cons (Da.dp h c'.1) (DaAll.dp t c'.2)
end
end

/-! ### written data -/
mutual
def litOf : Expr → Option PyData
  | .Constant c _ _ => match c with
    | .none => some .none
    | .bool b => some (.bool b)
    | .int i => some (.int i)
    | .str x => some (.str x)
    | _ => none
  | .UnaryOp .USub (.Constant (.int i) _ _) _ => some (.int (-i))
  | .BinOp (.Constant (.int i) _ _) .Pow (.Constant (.int j) _ _) _ => if 0 ≤ j ∧ j ≤ 1000 ∧ i.natAbs < 1000 then some (.int (i ^ j.toNat)) else none
  | .Tuple es _ _ => match litsOf es with
    | some ds => if ds.length ≤ 1000 then some (.tuple ds) else none
    | none => none
  | .List es _ => match litsOf es with
    | some ds => if ds.length ≤ 1000 then some (.list ds) else none
    | none => none
  | .Dict [] [] _ => some (.dict [])
  | _ => none
def litsOf : List Expr → Option (List PyData)
  | [] => some []
  | e :: es => match litOf e, litsOf es with
    | some d, some ds => some (d :: ds)
    | _, _ => none
end
theorem _root_.L2.PE.weak {X : Cx} {e : Expr} {t t' : TE} (h : PE X e t) (k : ∀ σ H Q, t' σ H Q → t σ H Q) : PE X e t' := ⟨fun p s σ H Q I q => h.run p s σ H Q I (k σ H Q q)⟩
theorem _root_.L2.PA.weak {X : Cx} {e : List Expr} {t t' : TA} (h : PA X e t) (k : ∀ σ H Q, t' σ H Q → t σ H Q) : PA X e t' := ⟨fun o p s σ H Q I q => h.run o p s σ H Q I (k σ H Q q)⟩
/-- a new datum; a is any known place -/
def tLit (d : PyData) : TE := fun _ H Q => ∃ a, H a ≠ none ∧ ∀ v H', Same H H' → Da a H' v d → Q v H'
def tLits (ds : List PyData) : TA := fun _ H Q => ∃ a, H a ≠ none ∧ ∀ vs H', Same H H' → DaAll a H' vs ds → Q vs H'
theorem same_some {H H' : Hp} {a : Addr} (s : Same H H') (h : H a ≠ none) : H' a ≠ none := by
  cases e : H a with
  | none => exact absurd e h
  | some o => rw [s a o e]; exact fun z => by cases z
theorem new_ne {H : Hp} {a p : Addr} (h : H a ≠ none) (n : H p = none) : p ≠ a := fun z => h (by rw [← z]; exact n)
theorem star_lit {e : Expr} {es : List Expr} {env : Env} {d : PyData} (h : litOf e = some d) : starEach (e :: es) env = (false, eval e env) :: starEach es env := by
  cases e <;> first | rfl | (simp [litOf] at h)
section
variable {X : Cx}
mutual
theorem pe_lit : ∀ (e : Expr) {d : PyData}, litOf e = some d → PE X e (tLit d)
  | .Constant .none _ _, _, h => by
    have e := Option.some.inj h; subst e
    exact pe_non.weak fun σ H Q ⟨a, _, q⟩ => q _ _ (Same.refl H) .non
  | .Constant (.bool b) _ _, _, h => by
    have e := Option.some.inj h; subst e
    exact pe_bl.weak fun σ H Q ⟨a, _, q⟩ => q _ _ (Same.refl H) (.bl b)
  | .Constant (.int i) _ _, _, h => by
    have e := Option.some.inj h; subst e
    exact pe_int.weak fun σ H Q ⟨a, _, q⟩ => q _ _ (Same.refl H) (.int i)
  | .Constant (.str x) _ _, _, h => by
    have e := Option.some.inj h; subst e
    exact pe_str.weak fun σ H Q ⟨a, _, q⟩ => q _ _ (Same.refl H) (.str x)
  | .UnaryOp .USub (.Constant (.int i) _ _) _, _, h => by
    have e := Option.some.inj h; subst e
    exact (pe_un un_neg pe_int).weak fun σ H Q ⟨a, _, q⟩ => ⟨i, rfl, q _ _ (Same.refl H) (.int (-i))⟩
  | .BinOp (.Constant (.int i) _ _) .Pow (.Constant (.int j) _ _) _, d, h => by
    simp only [litOf] at h
    split at h
    · rename_i c
      have e := Option.some.inj h; subst e
      refine (pe_op op_pow pe_int pe_int).weak fun σ H Q ⟨a, _, q⟩ => ⟨i, j, rfl, rfl, ⟨c.1, by have := c.2.1; omega, by have := c.2.2; omega⟩, q _ _ (Same.refl H) (.int _)⟩
    · cases h
  | .Tuple es _ _, d, h => by
    simp only [litOf] at h
    split at h
    · rename_i ds hd
      split at h
      · rename_i c
        have e := Option.some.inj h; subst e
        refine (pe_tup (pa_lits es hd)).weak fun σ H Q ⟨a, n, q⟩ => ⟨a, n, fun vs H1 s1 d1 => ⟨sz (by rw [d1.len]; omega), fun p hp => ?_⟩⟩
        have s2 := same_new (o := .tup vs) hp
        exact q _ _ (s1.trans s2) (.tup (new_ne (same_some s1 n) hp) upd_same (d1.same s2))
      · cases h
    · cases h
  | .List es _, d, h => by
    simp only [litOf] at h
    split at h
    · rename_i ds hd
      split at h
      · rename_i c
        have e := Option.some.inj h; subst e
        refine (pe_lst (pa_lits es hd)).weak fun σ H Q ⟨a, n, q⟩ => ⟨a, n, fun vs H1 s1 d1 => ⟨sz (by rw [d1.len]; omega), fun p hp => ?_⟩⟩
        have s2 := same_new (o := .lst vs) hp
        exact q _ _ (s1.trans s2) (.lst (new_ne (same_some s1 n) hp) upd_same (d1.same s2))
      · cases h
    · cases h
  | .Dict [] [] _, d, h => by
    have e := Option.some.inj h; subst e
    refine pe_dnewK.weak fun σ H Q ⟨a, n, q⟩ => fun p hp => ?_
    exact q _ _ (same_new hp) (.dct (new_ne n hp) upd_same)
theorem pa_lits : ∀ (es : List Expr) {ds : List PyData}, litsOf es = some ds → PA X es (tLits ds)
  | [], _, h => by
    have e := Option.some.inj h; subst e
    exact pa_nil.weak fun σ H Q ⟨a, _, q⟩ => q _ _ (Same.refl H) .nil
  | e :: es, ds, h => by
    simp only [litsOf] at h
    split at h
    · rename_i d ds' hd hds
      have z := Option.some.inj h; subst z
      refine (pa_cons (pe_lit e hd) (pa_lits es hds) (star_lit hd)).weak fun σ H Q ⟨a, n, q⟩ => ⟨a, n, fun v H1 s1 d1 => ⟨a, same_some s1 n, fun vs H2 s2 d2 => ?_⟩⟩
      exact q _ _ (s1.trans s2) (.cons (d1.same s2) d2)
    · cases h
end
end
end Tw

set_option Elab.async false
set_option linter.all false
set_option maxRecDepth 100000
set_option maxHeartbeats 4000000
/-! rules: texts of data, a tuple beside the empty one, a tuple turned round, kinds of data -/
namespace Tw
open PySem PySem.Spec PyProof.Rows L2
section
variable {X : Cx}

/-- repr of a list, a tuple -/
def rShow (K : PySem.W.Frag) : List V → Hp → VK → Prop := fun xs H Q =>
  ∃ p d, xs = [.ref p] ∧ Dp K H (.ref p) d ∧ SeqAt.shaped d = true ∧ d.showable = true ∧ d.shown.length ≤ sizeLine ∧ Q (.str d.shown) H
theorem noDict_of {d : PyData} (h : SeqAt.shaped d = true) : d.hasDict = false := by
  have c := SeqAt.canLay_of_shaped h
  exact PyData.hasDict_of_canLay d c
theorem call_show (hq : Qt X.A) (hu : X.A.units + 70 < cLine) : CallR X (.builtin "repr") (rShow X.K) := by
  intro pins s σ H xs us Q I r h
  obtain ⟨p, d, rfl, hd, hs, hw, hz, q⟩ := h
  obtain ⟨u, rfl, rx⟩ := vals1 r
  obtain ⟨as, rd⟩ := Dp.reads I d _ u hd rx
  cases rx
  have dp := SeqAt.depth_of_shaped hs
  refine repr_of_reads' rd hw (fun z => ?_) hq (by omega) (fun _ _ e => e) (fun h' t k keep => ?_) hz
  · rw [noDict_of hs] at z; cases z
  · exact ⟨.str d.shown, H, I.kept keep, ⟨_, rfl⟩, q⟩

/-- a tuple beside an empty one -/
def rT0 (ne : Bool) (K : PySem.W.Frag) : R2 := fun x y H Q =>
  ∃ a b xs ys, x = .ref a ∧ y = .ref b ∧ SqT K H a xs ∧ SqT K H b ys ∧ ys = [] ∧ Q (.bl (if ne then !xs.isEmpty else xs.isEmpty)) H
theorem t0_val {xs : List V} {its its2 : List Value} (r1 : Vals xs its) (r2 : Vals [] its2) :
    ((List.range (min its.toArray.size its2.toArray.size)).all (fun _ => true) && its.toArray.size == its2.toArray.size) = xs.isEmpty := by
  cases r2
  cases r1 with
  | nil => rfl
  | cons _ _ => simp
theorem op_eqT0 (hu : X.A.units + 64 < cLine) : OpR X (compareOp .Eq) (rT0 false X.K) := by
  intro pins s σ H x y v u Q I rx ry h
  obtain ⟨a, b, xs, ys, rfl, rfl, ha, hb, rfl, q⟩ := h
  cases rx
  cases ry
  obtain ⟨its, r1, p1, _⟩ := I.tuple ha
  obtain ⟨its2, r2, p2, _⟩ := I.tuple hb
  refine SeqAt.RcAt.tuples (e := fun _ => true) p1 p2 (by omega) (fun j h1 h2 => ?_) _ _ _ _ ⟨.bl xs.isEmpty, H, I, ?_, q⟩
  · cases r2
    exact absurd h2 (by simp)
  · show Value.bool _ = Value.bool _
    rw [t0_val r1 r2]
theorem op_neT0 (hu : X.A.units + 64 < cLine) : OpR X (compareOp .NotEq) (rT0 true X.K) := by
  intro pins s σ H x y v u Q I rx ry h
  obtain ⟨a, b, xs, ys, rfl, rfl, ha, hb, rfl, q⟩ := h
  cases rx
  cases ry
  obtain ⟨its, r1, p1, _⟩ := I.tuple ha
  obtain ⟨its2, r2, p2, _⟩ := I.tuple hb
  refine SeqAt.RcNeAt.tuples (e := fun _ => true) p1 p2 (by omega) (fun j h1 h2 => ?_) _ _ _ _ ⟨.bl (!xs.isEmpty), H, I, ?_, q⟩
  · cases r2
    exact absurd h2 (by simp)
  · show Value.bool _ = Value.bool _
    rw [t0_val r1 r2]

/-! ### t[::-1] -/
theorem applied_rev {prog : Program} {w : World} {A : Around} {E : Value → Shared → Prop} {s : Shared} {sl : Addr} {vl vu vs : Value} {n : Nat} {Q : Int × Int × Nat → Shared → Prop}
    (hs : s.heap.IsSliceOf sl vl vu vs) (pl : IsPart vl none) (pu : IsPart vu none) (pt : IsPart vs (some (-1))) (h : Q ((n : Int) - 1, -1, n) s) :
    wpAny (model prog w) A (Builtin.Slice.sliceApplied (.ref sl) (pure (n : Int))) Q E s := by
  obtain ⟨ob, e1, e2, e3⟩ := id hs
  unfold Builtin.Slice.sliceApplied Builtin.Slice.sliceFields
  refine wpAny_bind (wpAny_bind (wpAny_field e1 e3 (x := vl) rfl ?_))
  refine wpAny_bind (wpAny_field e1 e3 (x := vu) rfl ?_)
  refine wpAny_bind (wpAny_field e1 e3 (x := vs) rfl (wpAny_pure ?_))
  refine wpAny_bind (HT.slicePart_ pt ?_)
  show wpAny _ _ (if ((-1 : Int) == 0) = true then _ else _) _ _ s
  rw [if_neg (by decide)]
  refine wpAny_bind (HT.slicePart_ pl ?_)
  refine wpAny_bind (HT.slicePart_ pu (wpAny_bind (wpAny_pure (wpAny_pure ?_))))
  have ep : Builtin.Slice.slicePlaces ((n : Int) - 1) (-1) (-1) = n := by
    unfold Builtin.Slice.slicePlaces
    have c1 : ¬ ((-1 : Int) > 0) := by decide
    simp only [c1, if_false]
    by_cases c : (n : Int) - 1 > -1
    · simp only [c, if_true]
      have : ((n : Int) - 1 - -1 - 1) / (- -1) = (n : Int) - 1 := by
        rw [show (- -1 : Int) = 1 by decide, Int.ediv_one]; omega
      omega
    · simp only [c, if_false]
      omega
  show Q (_, (-1 : Int), Builtin.Slice.slicePlaces ((n : Int) - 1) (-1) (-1)) s
  rw [ep]
  exact h
theorem fm_congr {α β : Type} {f g : α → Option β} : ∀ (l : List α), (∀ k ∈ l, f k = g k) → l.filterMap f = l.filterMap g
  | [], _ => rfl
  | k :: l, h => by
    rw [List.filterMap_cons, List.filterMap_cons, h k (by simp), fm_congr l fun j hj => h j (by simp [hj])]
theorem pick_rev (xs : Array Value) : ((List.range xs.size).filterMap fun (k : Nat) => xs[(((xs.size : Int) - 1) + (k : Int) * (-1)).toNat]?).toArray = xs.toList.reverse.toArray := by
  congr 1
  have e : (List.range xs.size).filterMap (fun (k : Nat) => xs[(((xs.size : Int) - 1) + (k : Int) * (-1)).toNat]?) = ((List.range xs.size).map fun k => xs.size - 1 - k).filterMap (xs[·]?) := by
    rw [List.filterMap_map]
    refine fm_congr _ fun k hk => ?_
    have hlt := List.mem_range.mp hk
    have e : (((xs.size : Int) - 1) + (k : Int) * (-1)).toNat = xs.size - 1 - k := by omega
    show xs[(((xs.size : Int) - 1) + (k : Int) * (-1)).toNat]? = xs[xs.size - 1 - k]?
    rw [e]
  rw [e, PySem.W.krv_range, List.filterMap_reverse, PySem.W.krv_all]
theorem getItem_rev {prog : Program} {w : World} {A : Around} {E : Value → Shared → Prop} {s : Shared} {t sl : Addr} {items : Array Value} {vl vu vs : Value} {Q : Value → Shared → Prop}
    (ht : IsTup s.heap t items) (hs : s.heap.IsSliceOf sl vl vu vs) (pl : IsPart vl none) (pu : IsPart vu none) (pt : IsPart vs (some (-1))) (hz : items.size ≤ sizeLine)
    (h : Q (.ref s.heap.objs.size) { s with heap := s.heap.push { cls := .type "tuple", data := .seq items.toList.reverse.toArray } }) :
    wpAny (model prog w) A (getItem (.ref t) (.ref sl)) Q E s := by
  have ty : s.TypeIs (.ref sl) "slice" := by obtain ⟨ob, e1, e2, e3⟩ := id hs; exact ⟨ob, e1, e2⟩
  have ok : sizeOk (.seq items.toList.reverse.toArray) := by
    show items.toList.reverse.toArray.size ≤ sizeLine
    simpa using hz
  unfold getItem
  (try with_reducible refine wpAny_holding ?_); (first | refine wpAny_bind (wpAny_pure ?_) | skip)
  refine wpAny_bind (wpAny_sequenceKey ht.typeIs (by decide) ?_)
  have sg := PyProof.Rows.slot_tuple_getitem
  refine wpAny_bind (wpAny_callSpecial?_slot (name := Str.ofString "__getitem__") ht.typeIs sg ?_)
  refine wpAny_call_entry sg ht.typeIs entry_tuple_getitem ?_ (args_tuple_getitem _ _)
  refine (show wpAny _ _ (Builtin.Tuple.tupleItemsOf (.ref t) >>= _) _ _ s from ?_)
  refine wpAny_bind (tupleItemsOf_ ht (wpAny_bind (wpAny_typeOf ty ?_)))
  rw [if_pos (by decide)]
  refine wpAny_bind (applied_rev hs pl pu pt ?_)
  have no : ¬ (((items.size : Int) - 1 == 0 && (-1 : Int) == 1 && items.size == items.size) = true) := by simp
  show wpAny _ _ (if ((items.size : Int) - 1 == 0 && (-1 : Int) == 1 && items.size == items.size) = true then _ else _) _ _ s
  rw [if_neg no, pick_rev]
  first
    | exact wpAny_bind (wpAny_bind (m := Builtin.Tuple.tupleExact _) (wpAny_newObj_type (wpAny_pure ⟨_, rfl, wpAny_pure h⟩) ok))
    | exact wpAny_bind (m := Builtin.Tuple.tupleExact _) (wpAny_newObj_type (wpAny_pure ⟨_, rfl, wpAny_pure h⟩) ok)
    | exact wpAny_bind (m := Builtin.Tuple.tupleExact _) (wpAny_newObj_type (wpAny_bind (wpAny_pure (wpAny_pure ⟨_, rfl, wpAny_pure h⟩))) ok)
    | exact wpAny_bind (wpAny_bind (m := Builtin.Tuple.tupleExact _) (wpAny_newObj_type (wpAny_pure (wpAny_pure ⟨_, rfl, wpAny_pure h⟩)) ok))
def tRevT (K : PySem.W.Frag) (te : TE) : TE := fun σ H Q => te σ H fun x H1 => ∃ a xs, x = .ref a ∧ SqT K H1 a xs ∧ ∀ p, H1 p = none → Q (.ref p) (upd H1 p (.tup xs.reverse))
theorem pe_revT {e : Expr} {te : TE} {k : Nat} {p1 p2 p3 pos : Pos} (he : PE X e te) :
    PE X (.Subscript e (.Slice none none (some (.UnaryOp .USub (.Constant (.int 1) k p1) p2)) p3) pos) (tRevT X.K te) := by
  refine ⟨fun pins s σ H Q I h => Subscript_ (thn (he.run pins s σ H _ I h) ?_)⟩
  rintro v s1 ⟨x, H1, I1, r1, a, xs, ex, hx, q⟩
  subst ex
  cases r1
  have step : PO X (some (.UnaryOp .USub (.Constant (.int 1) k p1) p2)) (tPart (tUn (rU fun i => .int (-i)) (tC (.int 1)))) := po_some (pe_un un_neg pe_int)
  refine wpAny_Slice (thn (po_none.run pins s1 σ H1 (fun o G => o = none ∧ G = H1) I1 ⟨rfl, rfl⟩) ?_)
  rintro vl s2 ⟨l, G2, I2, pl, rfl, rfl⟩
  refine thn (po_none.run pins s2 σ G2 (fun o G => o = none ∧ G = G2) I2 ⟨rfl, rfl⟩) ?_
  rintro vu s3 ⟨l3, G3, I3, pu, rfl, rfl⟩
  refine thn (step.run pins s3 σ G3 (fun o G => o = some (-1) ∧ G = G3) I3 ⟨1, rfl, -1, rfl, rfl, rfl⟩) ?_
  rintro vs s4 ⟨l4, G4, I4, pt, rfl, rfl⟩
  have I5 := I4.kept (h' := s4.heap.push { cls := .type "slice", data := .fields #[vl, vu, vs] }) (t' := s4.toks) fun b ob z => Heap.get?_push_of_some _ z
  obtain ⟨its, r, ht, hz⟩ := I5.tuple hx
  have hl := r.length
  refine tail_any (ops := [.ref a, .ref s4.heap.objs.size]) ht.typeIs PyProof.Rows.slot_tuple_getitem.lookup ?_ (by with_unfolding_all rfl)
  refine getItem_rev ht (Heap.IsSliceOf.new _ vl vu vs) pl pu pt (by rw [List.size_toArray]; omega) ?_
  have J := I5.laid (t' := s4.toks) (o := .tup xs.reverse) (fun b ob z => Heap.get?_push_of_some _ z) (Nat.le_refl _)
    ⟨by rw [List.length_reverse]; exact hz, its.reverse, Vals.reverse r, IsTup.new _ _⟩
  exact ⟨.ref _, _, J, rfl, q _ (I5.hok.fresh (Nat.le_refl _))⟩
end

/-! ### kinds -/
def kindOf : PyData → String
  | .none => "NoneType"
  | .bool _ => "bool"
  | .int _ => "int"
  | .str _ => "str"
  | .list _ => "list"
  | .tuple _ => "tuple"
  | .dict _ => "dict"
theorem Da.ty {a : Addr} {H : Hp} {K : PySem.W.Frag} : ∀ {v : V} {d : PyData}, Da a H v d → TyX K H v (.type (kindOf d))
  | _, _, .non => .base .non
  | _, _, .bl b => .base (.bl b)
  | _, _, .int i => .base (.int i)
  | _, _, .str x => .base (.str x)
  | _, _, .lst _ h _ => .base (.lst h)
  | _, _, .tup _ h _ => .base (.tup h)
  | _, _, .dct _ h => .base (.dK h)
end Tw

set_option Elab.async false
set_option linter.all false
set_option maxRecDepth 100000
set_option maxHeartbeats 4000000
/-! defs of the text, and calls of them by name -/
namespace Tw
open PySem PySem.Spec PyProof.Rows L2

/-- the def st stands at the name x -/
def Def (K : PySem.W.Frag) (mg : Str → Option Value) (x : Str) (st : Stmt) (ps : List Str) : Prop :=
  ∃ f fd, Fun K x x st f fd ∧ mg x = some (.ref f) ∧ Binds K fd ps []
/-- f is a def, fd -/
def FdAt (K : PySem.W.Frag) (f : Addr) (fd : FuncData) : Prop := ∃ oc od osl, K.lookup f = some ⟨oc, od, .func fd, osl⟩
theorem fdAt {K : PySem.W.Frag} {x q : Str} {st : Stmt} {f : Addr} {fd : FuncData} (F : Fun K x q st f fd) : FdAt K f fd := by
  obtain ⟨oc, od, _, _, _, _, _, _, osl, _, lk, _⟩ := F.ex
  exact ⟨oc, od, osl, lk⟩
/-- what stands at the name x keeps the promise -/
def Cal (P : Program) (w : World) (K : PySem.W.Frag) (mg : Str → Option Value) (base : Heap) (x : Str) (k : Nat) (ps : List Str) (sp : Sp) : Prop :=
  ∃ f fd, FnOk P w K mg base CX0 k f fd ps sp ∧ mg x = some (.ref f) ∧ PySem.W.keepIn K (.ref f) = true ∧ Binds K fd ps [] ∧ FdAt K f fd
def CalG (P : Program) (w : World) (K : PySem.W.Frag) (mg : Str → Option Value) (base : Heap) (x : Str) (k : Nat) (ps : List Str) (sp : Sp) : Prop :=
  ∃ f fd, FnG P w K mg base k f fd ps sp ∧ mg x = some (.ref f) ∧ PySem.W.keepIn K (.ref f) = true ∧ Binds K fd ps [] ∧ FdAt K f fd
section
variable {P : Program} {w : World} {K : PySem.W.Frag} {mg : Str → Option Value} {base : Heap} {x : Str} {st : Stmt} {ps N : List Str} {k : Nat} {sp : Sp}
theorem Def.ok (D : Def K mg x st ps) (S : FnScope N ps (defScope st)) (many : ∀ vs H Q E, sp vs H Q E → vs.length = ps.length)
    (hbody : ∀ (f : Addr) (cdv : Value) (A : Around) (out : List Env) (s : Shared) (H : Hp) (vs : List V) (Q : VK) (E : XK),
      Room k (A.deeper (envOfC x (defScope st) s.heap.objs.size f cdv)) → sp vs H Q E →
      ∃ t, PSs (cxOf CX0 P w K mg base N x (defScope st) f cdv A out s H E).nox (defBody st) t ∧
        t { nx := fun _ H' => Q .non H', rt := Q } (start N vs) H) : Cal P w K mg base x (k + 1) ps sp := by
  obtain ⟨f, fd, F, m, b⟩ := D
  exact ⟨f, fd, F.ok S many (fun cdv A out s H vs Q E hr hs => hbody f cdv A out s H vs Q E hr hs), m, F.kp, b, fdAt F⟩
theorem Def.okG (D : Def K mg x st ps) (S : FnScope N ps (defScope st)) (many : ∀ vs H Q E, sp vs H Q E → vs.length = ps.length)
    (hbody : ∀ (f : Addr) (cdv : Value) (A : Around) (out : List Env) (s : Shared) (H : Hp) (vs : List V) (Q : VK) (E : XK),
      Qt (A.deeper (envOfC x (defScope st) s.heap.objs.size f cdv)) →
      Room k (A.deeper (envOfC x (defScope st) s.heap.objs.size f cdv)) → sp vs H Q E →
      ∃ t, PSs (cxOf CX0 P w K mg base N x (defScope st) f cdv A out s H E).nox (defBody st) t ∧
        t { nx := fun _ H' => Q .non H', rt := Q } (start N vs) H) : CalG P w K mg base x (k + 1) ps sp := by
  obtain ⟨f, fd, F, m, b⟩ := D
  exact ⟨f, fd, Fun.okG F S many (fun cdv A out s H vs Q E hq hr hs => hbody f cdv A out s H vs Q E hq hr hs), m, F.kp, b, fdAt F⟩
theorem Cal.imp {sp' : Sp} (C : Cal P w K mg base x k ps sp) (h : ∀ vs H Q E, sp' vs H Q E → sp vs H Q E) : Cal P w K mg base x k ps sp' := by
  obtain ⟨f, fd, F, r⟩ := C
  exact ⟨f, fd, F.imp h, r⟩
theorem Cal.up {j : Nat} (C : Cal P w K mg base x j ps sp) (h : j ≤ k) : Cal P w K mg base x k ps sp := by
  obtain ⟨f, fd, F, r⟩ := C
  exact ⟨f, fd, F.mono h, r⟩
theorem def_mk {h : Heap} {f : Addr} {oc kV dc pm cd ct : Value} {od an : Option Addr} {sl : Array (Option Value)} (X : K.In h) (G : h.Ns mainGlobals mg)
    (a : PySem.W.nsIn K mainGlobals x = some (some (.ref f)))
    (l : K.lookup f = some ⟨oc, od, .func (PySem.W.fnOf x x (defArgs st) (defBody st) (defScope st) .none kV dc pm an cd ct), sl⟩)
    (c : PySem.W.codeIn K cd x = true) (kp : PySem.W.keepIn K (.ref f) = true)
    (hb : ∀ (kV doc pm : Value) (an : Option Addr) (cdv ct : Value) (us : List Value), us.length = ps.length →
      bindArgs (PySem.W.fnOf x x (defArgs st) (defBody st) (defScope st) .none kV doc pm an cdv ct) ⟨us, []⟩ = pure (ps.zip us)) : Def K mg x st ps := by
  have F := fun_mk (st := st) l c kp
  exact ⟨f, _, F, PySem.W.mg_of X G a, F.binds hb⟩
end
section
variable {X : Cx} {k j : Nat} {ps : List Str} {sp : Sp} {x : Str} {p pos : Pos} {e : Expr} {es : List Expr} {t : TA}
/-- f(e, ..) -/
theorem pe_cal (C : Cal X.prog X.w X.K X.mg X.base x j ps sp) (hr : Room k X.A) (hj : j ≤ k) (hg : Gl X x) (ha : PA X (e :: es) t) (hdb : (x == ("__debug__" : Str)) = false := by decide)
    (he : starEach (e :: es) X.env = (false, eval e X.env) :: starEach es X.env := by rfl) (hpl : (backTo pos (starEach es X.env)).any (·.1) = false := by rfl) :
    PE X (.Call (.Name x p) (e :: es) [] pos) (tCall sp [] E0 t) := by
  obtain ⟨f, fd, F, m, kp, b, _⟩ := C
  exact pe_call F (hr.mono hj) hg m kp b .nil pass0 ha hdb he hpl
theorem pe_calG (C : CalG X.prog X.w X.K X.mg X.base x j ps sp) (hq : Qt X.A) (hr : Room k X.A) (hj : j ≤ k) (hg : Gl X x) (ha : PA X (e :: es) t) (hdb : (x == ("__debug__" : Str)) = false := by decide)
    (he : starEach (e :: es) X.env = (false, eval e X.env) :: starEach es X.env := by rfl) (hpl : (backTo pos (starEach es X.env)).any (·.1) = false := by rfl) :
    PE X (.Call (.Name x p) (e :: es) [] pos) (tCall sp [] E0 t) := by
  obtain ⟨f, fd, F, m, kp, b, _⟩ := C
  exact pe_callG F hq (hr.mono hj) hg m kp b ha hdb he hpl

/-- f(k = e, ..), nothing by position: ks the names as they are written, g puts the values in the parameters' order -/
theorem pe_calK {st : Stmt} {ks : List Str} {kws : List Keyword} (g : List Value → List Value) (gV : List V → List V) (C : Cal X.prog X.w X.K X.mg X.base x j ps sp) (D : Def X.K X.mg x st ps) (hr : Room k X.A) (hj : j ≤ k) (hg : Gl X x)
    (hb : ∀ (kV doc pm : Value) (an : Option Addr) (cdv ct : Value) (us : List Value), us.length = ks.length →
      bindArgs (PySem.W.fnOf x x (defArgs st) (defBody st) (defScope st) .none kV doc pm an cdv ct) ⟨[], ks.zip us⟩ = pure (ps.zip (g us)))
    (hrel : ∀ {zs : List V} {us : List Value}, Vals zs us → us.length = ks.length → Vals (gV zs) (g us)) (ha : PK X kws t)
    (hn : ∀ zs H Q, t zs H Q → t zs H fun vs H' => vs.length = ks.length ∧ Q vs H')
    (hall : (backToKw pos (keywordEach kws X.env)).all (·.1.isSome) = true := by rfl) (hks : (backToKw pos (keywordEach kws X.env)).filterMap (·.1) = ks := by rfl)
    (hdb : (x == ("__debug__" : Str)) = false := by decide)
    (hpl : ((backTo pos (starEach [] X.env)).any (·.1) || (backToKw pos (keywordEach kws X.env)).any (·.1.isNone)) = false := by rfl) :
    PE X (.Call (.Name x p) [] kws pos) (fun σ H Q => t σ H fun zs H1 => sp (gV zs) H1 Q E0) := by
  obtain ⟨f, fd, F, m, kp, b, oc, od, osl, lk⟩ := C
  obtain ⟨f', fd', F', m', _⟩ := D
  have e1 : f' = f := by rw [m] at m'; injection m' with z; injection z with z; exact z.symm
  subst e1
  obtain ⟨oc', od', kV, doc, pm, an, cdv, ct, osl', e2, lk', _⟩ := F'.ex
  rw [lk] at lk'
  injection lk' with lk'
  injection lk' with _ _ e3 _
  injection e3 with e3
  subst e3
  refine ⟨fun pins s σ H Q I h => wpAny_Call_Name_kw (ld_glob I hg m ?_ hdb)⟩
  refine PySem.W.callWith_KW0 (h₀ := X.base) I.ok.mod.kin kp hall ?_ hpl
  refine thn (ha.run pos pins s σ H _ I (hn σ H _ h)) ?_
  rintro ws s2 ⟨zs, H2, I2, rz, hl, q2⟩
  rw [hks]
  refine ⟨I2.kIn, wpAny_call ?_⟩
  have hw : ws.length = ks.length := by rw [← Vals.length rz]; exact hl
  have bt : BindsTo s2 fd ⟨[], ks.zip ws⟩ (ps.zip (g ws)) := by
    rw [e2]
    exact .of_eq (hb kV doc pm an cdv ct ws hw)
  refine codeAny_mono (F.run X.A X.stack s2 H2 ⟨[], ks.zip ws⟩ (g ws) (gV zs) Q E0 (hr.mono hj) I2.env0 bt (hrel rz hw) q2) fun r s' hh => ?_
  cases r with
  | error z => exact False.elim hh
  | ok fl =>
    cases fl with
    | ret u => exact I2.after hh
    | next => exact False.elim hh
    | brk => exact False.elim hh
    | cont => exact False.elim hh
end

section
variable {P : Program} {w : World} {K : PySem.W.Frag} {mg : Str → Option Value} {st : Stmt} {x y : Str} {k : Nat} {sp : Sp} {fa : Addr}
theorem end_law (D : Def K mg x st [y]) (hfa : mg x = some (.ref fa)) (F : ∀ base : Heap, CalG P w K mg base x k [y] sp)
    (hb : ∀ (kV doc pm : Value) (an : Option Addr) (cdv ct u : Value), bindArgs (PySem.W.fnOf x x (defArgs st) (defBody st) (defScope st) .none kV doc pm an cdv ct) ⟨[u], []⟩ = pure [(y, u)]) :
    ∃ fd : FuncData, (∀ (s : Shared) (u : Value), BindsTo s fd ⟨[u], []⟩ [(y, u)]) ∧ ∀ base : Heap, K.In base → base.Ns mainGlobals mg → FnG P w K mg base k fa fd [y] sp := by
  obtain ⟨f, fd, F', m, _⟩ := D
  have e1 : f = fa := by rw [hfa] at m; injection m with z; injection z with z; exact z.symm
  subst e1
  obtain ⟨oc, od, kV, doc, pm, an, cdv, ct, osl, e2, lk, _⟩ := F'.ex
  refine ⟨fd, fun s u => by rw [e2]; exact .of_eq (hb kV doc pm an cdv ct u), fun base _ _ => ?_⟩
  obtain ⟨f2, fd2, G, m2, _, _, oc2, od2, osl2, lk2⟩ := F base
  have e3 : f2 = f := by rw [hfa] at m2; injection m2 with z; injection z with z; exact z.symm
  subst e3
  rw [lk] at lk2
  injection lk2 with lk2
  injection lk2 with _ _ e4 _
  injection e4 with e4
  rw [e4]
  exact G
end

theorem with_def {R : Prop} {K : PySem.W.Frag} {mg : Str → Option Value} {x : Str} {st : Stmt} {ps : List Str} {h : Heap} {f : Addr} {oc kV dc pm cd ct : Value} {od an : Option Addr} {sl : Array (Option Value)} (X : K.In h) (G : h.Ns mainGlobals mg)
    (a : PySem.W.nsIn K mainGlobals x = some (some (.ref f)))
    (l : K.lookup f = some ⟨oc, od, .func (PySem.W.fnOf x x (defArgs st) (defBody st) (defScope st) .none kV dc pm an cd ct), sl⟩)
    (c : PySem.W.codeIn K cd x = true) (kp : PySem.W.keepIn K (.ref f) = true)
    (hb : ∀ (kV doc pm : Value) (an : Option Addr) (cdv ct : Value) (us : List Value), us.length = ps.length →
      bindArgs (PySem.W.fnOf x x (defArgs st) (defBody st) (defScope st) .none kV doc pm an cdv ct) ⟨us, []⟩ = pure (ps.zip us))
    (go : Def K mg x st ps → R) : R := go (def_mk X G a l c kp hb)
theorem with_no {R : Prop} {K : PySem.W.Frag} {mg : Str → Option Value} {x : Str} {h : Heap} (X : K.In h) (G : h.Ns mainGlobals mg) (z : PySem.W.nsIn K mainGlobals x = some none) (go : mg x = none → R) : R := go (PySem.W.mg_none_of X G z)
end Tw

set_option Elab.async false
set_option linter.all false
set_option maxRecDepth 100000
set_option maxHeartbeats 4000000
/-! comprehensions over data, small facts -/
namespace Tw
open PySem PySem.Spec PyProof.Rows L2
theorem same_upd {H H' : Hp} {D : Addr} {o : HO} (s : Same H H') (n : H D = none) : Same H (upd H' D o) := fun b u e => by
  rw [upd_ne (ne_of_none e n)]; exact s b u e
theorem kp_upd {a : Addr} {H H' : Hp} {D : Addr} {o : HO} (s : Kp a H H') (n : H D = none) : Kp a H (upd H' D o) := fun b u ne e => by
  rw [upd_ne (ne_of_none e n)]; exact s b u ne e
theorem lt_line {n : Nat} (h : n < 100000) : n < sizeLine := Nat.lt_of_lt_of_le h (by decide)
theorem take_map {α β : Type} (f : α → β) {ds : List α} {i : Nat} {d : α} (h : ds[i]? = some d) : (ds.take i).map f ++ [f d] = (ds.take (i + 1)).map f := by
  rw [List.take_add_one, h, List.map_append]; rfl
section
variable {K : PySem.W.Frag} {te : TE} {i j : Nat} {elt : TE} {vs : List Nat} {σ : L2.St} {H : Hp} {Q : VK} {a p : Addr} {xs : List V} {ds : List PyData}
/-- [f(d) for d in t], t a tuple of data -/
theorem lc_mapT (f : PyData → V) (hv : σ[i]? = some (some (.ref p))) (ht : H p = some (.tup xs)) (hd : DaAll a H xs ds) (hn : xs.length < 100000)
    (hw : ∀ x, wipe ((wipe σ vs).set j (some x)) vs = wipe σ vs)
    (he : ∀ x d H1, d ∈ ds → Same H H1 → Da a H1 x d → ∀ R : VK, (∀ H2, Same H1 H2 → R (f d) H2) → elt ((wipe σ vs).set j (some x)) H1 R)
    (q : ∀ D H', Same H H' → H D = none → H' D = some (.lst (ds.map f)) → Q (.ref D) H') : tLc (iTup K (tVar i)) (gName j) tYes elt vs σ H Q := by
  refine ⟨.ref p, hv, p, rfl, ⟨xs, SqT.of ht⟩, fun D hD => ?_⟩
  refine lc_tup (xs := xs) (fun m H' => Same H H' ∧ H' D = some (.lst ((ds.take m).map f))) ⟨same_new hD, upd_same⟩ (fun m H' _ h => SqT.of (h.1 _ _ ht)) (fun m x H1 hx h => ?_) (fun H' h => ?_)
  · obtain ⟨h1, h2⟩ := h
    obtain ⟨d, e1, e2⟩ := hd.get hx
    have hm : m < xs.length := (List.getElem?_eq_some_iff.mp hx).1
    refine ⟨hw x, ?_⟩
    unfold tYes
    simp only [if_true]
    refine he x d H1 (List.mem_of_getElem? e1) h1 (e2.same h1) _ fun H2 s2 => ⟨(ds.take m).map f, s2 _ _ h2, ?_, same_upd (h1.trans s2) hD, ?_⟩
    · rw [List.length_map, List.length_take]; exact lt_line (by omega)
    · rw [upd_same, take_map f e1]
  · obtain ⟨h1, h2⟩ := h
    rw [hd.len, List.take_length] at h2
    exact q D H' h1 hD h2
theorem lc_mapL (f : PyData → V) (hv : σ[i]? = some (some (.ref p))) (ht : H p = some (.lst xs)) (hd : DaAll a H xs ds) (hn : xs.length < 100000)
    (hw : ∀ x, wipe ((wipe σ vs).set j (some x)) vs = wipe σ vs)
    (he : ∀ x d H1, d ∈ ds → Same H H1 → Da a H1 x d → ∀ R : VK, (∀ H2, Same H1 H2 → R (f d) H2) → elt ((wipe σ vs).set j (some x)) H1 R)
    (q : ∀ D H', Same H H' → H D = none → H' D = some (.lst (ds.map f)) → Q (.ref D) H') : tLc (iList K (tVar i)) (gName j) tYes elt vs σ H Q := by
  refine ⟨.ref p, hv, p, rfl, ⟨xs, SqL.of ht⟩, fun D hD => ?_⟩
  refine lc_list (xs := xs) (fun m H' => Same H H' ∧ H' D = some (.lst ((ds.take m).map f))) ⟨same_new hD, upd_same⟩ (fun m H' _ h => SqL.of (h.1 _ _ ht)) (fun m x H1 hx h => ?_) (fun H' h => ?_)
  · obtain ⟨h1, h2⟩ := h
    obtain ⟨d, e1, e2⟩ := hd.get hx
    have hm : m < xs.length := (List.getElem?_eq_some_iff.mp hx).1
    refine ⟨hw x, ?_⟩
    unfold tYes
    simp only [if_true]
    refine he x d H1 (List.mem_of_getElem? e1) h1 (e2.same h1) _ fun H2 s2 => ⟨(ds.take m).map f, s2 _ _ h2, ?_, same_upd (h1.trans s2) hD, ?_⟩
    · rw [List.length_map, List.length_take]; exact lt_line (by omega)
    · rw [upd_same, take_map f e1]
  · obtain ⟨h1, h2⟩ := h
    rw [hd.len, List.take_length] at h2
    exact q D H' h1 hD h2
end

/-! ### kinds, tests of kinds -/
def isIntD : PyData → Bool
  | .int _ => true
  | .bool _ => true
  | _ => false
def isBoolD : PyData → Bool
  | .bool _ => true
  | _ => false
def isTupD : PyData → Bool
  | .tuple _ => true
  | _ => false
theorem isi_int {K : PySem.W.Frag} (d : PyData) : PySem.W.kitOne K (.type (kindOf d)) (.type "int") = some (isIntD d) := by
  cases d with
  | none => exact kit_ty (show kitB "NoneType" "int" = some false by decide +kernel)
  | bool _ => exact kit_ty (show kitB "bool" "int" = some true by decide +kernel)
  | int _ => exact kit_ty (show kitB "int" "int" = some true by decide +kernel)
  | str _ => exact kit_ty (show kitB "str" "int" = some false by decide +kernel)
  | list _ => exact kit_ty (show kitB "list" "int" = some false by decide +kernel)
  | tuple _ => exact kit_ty (show kitB "tuple" "int" = some false by decide +kernel)
  | dict _ => exact kit_ty (show kitB "dict" "int" = some false by decide +kernel)
theorem isi_bool {K : PySem.W.Frag} (d : PyData) : PySem.W.kitOne K (.type (kindOf d)) (.type "bool") = some (isBoolD d) := by
  cases d with
  | none => exact kit_ty (show kitB "NoneType" "bool" = some false by decide +kernel)
  | bool _ => exact kit_ty (show kitB "bool" "bool" = some true by decide +kernel)
  | int _ => exact kit_ty (show kitB "int" "bool" = some false by decide +kernel)
  | str _ => exact kit_ty (show kitB "str" "bool" = some false by decide +kernel)
  | list _ => exact kit_ty (show kitB "list" "bool" = some false by decide +kernel)
  | tuple _ => exact kit_ty (show kitB "tuple" "bool" = some false by decide +kernel)
  | dict _ => exact kit_ty (show kitB "dict" "bool" = some false by decide +kernel)
theorem isi_tup {K : PySem.W.Frag} (d : PyData) : PySem.W.kitOne K (.type (kindOf d)) (.type "tuple") = some (isTupD d) := by
  cases d with
  | none => exact kit_ty (show kitB "NoneType" "tuple" = some false by decide +kernel)
  | bool _ => exact kit_ty (show kitB "bool" "tuple" = some false by decide +kernel)
  | int _ => exact kit_ty (show kitB "int" "tuple" = some false by decide +kernel)
  | str _ => exact kit_ty (show kitB "str" "tuple" = some false by decide +kernel)
  | list _ => exact kit_ty (show kitB "list" "tuple" = some false by decide +kernel)
  | tuple _ => exact kit_ty (show kitB "tuple" "tuple" = some true by decide +kernel)
  | dict _ => exact kit_ty (show kitB "dict" "tuple" = some false by decide +kernel)
/-- isinstance(x, T) of a datum -/
theorem isi {K : PySem.W.Frag} {a : Addr} {H : Hp} {Q : VK} {v : V} {d : PyData} {T : String} {b : Bool} (h : Da a H v d) (k : PySem.W.kitOne K (.type (kindOf d)) (.type T) = some b) (q : Q (.bl b) H) :
    rIsi K [v, .ty T] H Q := ⟨v, .ty T, .type (kindOf d), .type T, b, rfl, .ty T, h.ty, k, q⟩

/-! ### how deep, how wide -/
mutual
def dep : PyData → Nat
  | .list ds => dep1 ds + 1
  | .tuple ds => dep1 ds + 1
  | _ => 0
def dep1 : List PyData → Nat
  | [] => 0
  | d :: ds => max (dep d) (dep1 ds)
end
mutual
def wid : PyData → Nat
  | .list ds => max ds.length (wid1 ds)
  | .tuple ds => max ds.length (wid1 ds)
  | _ => 0
def wid1 : List PyData → Nat
  | [] => 0
  | d :: ds => max (wid d) (wid1 ds)
end
theorem dep1_mem {d : PyData} : ∀ {ds : List PyData}, d ∈ ds → dep d ≤ dep1 ds
  | e :: ds, h => by
    rw [dep1]
    rcases List.mem_cons.mp h with rfl | h
    · exact Nat.le_max_left _ _
    · exact Nat.le_trans (dep1_mem h) (Nat.le_max_right _ _)
theorem wid1_mem {d : PyData} : ∀ {ds : List PyData}, d ∈ ds → wid d ≤ wid1 ds
  | e :: ds, h => by
    rw [wid1]
    rcases List.mem_cons.mp h with rfl | h
    · exact Nat.le_max_left _ _
    · exact Nat.le_trans (wid1_mem h) (Nat.le_max_right _ _)
theorem dep1_le {n : Nat} : ∀ {ds : List PyData}, (∀ d ∈ ds, dep d ≤ n) → dep1 ds ≤ n
  | [], _ => Nat.zero_le _
  | d :: ds, h => by
    rw [dep1]
    exact Nat.max_le.mpr ⟨h d (by simp), dep1_le fun e he => h e (by simp [he])⟩
theorem wid1_le {n : Nat} : ∀ {ds : List PyData}, (∀ d ∈ ds, wid d ≤ n) → wid1 ds ≤ n
  | [], _ => Nat.zero_le _
  | d :: ds, h => by
    rw [wid1]
    exact Nat.max_le.mpr ⟨h d (by simp), wid1_le fun e he => h e (by simp [he])⟩
/-- at most n deep, m wide -/
def Sm (n m : Nat) (d : PyData) : Prop := dep d ≤ n ∧ wid d ≤ m
theorem Sm.up {n m n' m' : Nat} {d : PyData} (h : Sm n m d) (h1 : n ≤ n') (h2 : m ≤ m') : Sm n' m' d := ⟨Nat.le_trans h.1 h1, Nat.le_trans h.2 h2⟩
theorem sm_tup {n m : Nat} {ds : List PyData} (hl : ds.length ≤ m) (h : ∀ d ∈ ds, Sm n m d) : Sm (n + 1) m (.tuple ds) :=
  ⟨by rw [dep]; exact Nat.succ_le_succ (dep1_le fun d hd => (h d hd).1), by rw [wid]; exact Nat.max_le.mpr ⟨hl, wid1_le fun d hd => (h d hd).2⟩⟩
theorem sm_lst {n m : Nat} {ds : List PyData} (hl : ds.length ≤ m) (h : ∀ d ∈ ds, Sm n m d) : Sm (n + 1) m (.list ds) :=
  ⟨by rw [dep]; exact Nat.succ_le_succ (dep1_le fun d hd => (h d hd).1), by rw [wid]; exact Nat.max_le.mpr ⟨hl, wid1_le fun d hd => (h d hd).2⟩⟩
theorem Sm.len {n m : Nat} {ds : List PyData} (h : Sm n m (.tuple ds)) : ds.length ≤ m := by
  have := h.2
  rw [wid] at this
  exact Nat.le_trans (Nat.le_max_left _ _) this
theorem Sm.dep1 {n m : Nat} {ds : List PyData} (h : Sm n m (.tuple ds)) : 1 ≤ n := by
  have := h.1
  rw [dep] at this
  omega
theorem Sm.mem {n m : Nat} {ds : List PyData} {d : PyData} (h : Sm n m (.tuple ds)) (hd : d ∈ ds) : Sm (n - 1) m d := by
  obtain ⟨h1, h2⟩ := h
  rw [dep] at h1
  rw [wid] at h2
  have := dep1_mem hd
  exact ⟨by omega, Nat.le_trans (wid1_mem hd) (Nat.le_trans (Nat.le_max_right _ _) h2)⟩
def smB (n m : Nat) (d : PyData) : Bool := decide (dep d ≤ n) && decide (wid d ≤ m)
theorem sm_of {n m : Nat} {d : PyData} (h : smB n m d = true) : Sm n m d := by
  unfold smB at h
  simpa [Sm] using h

/-- a loop over a range, its body already read -/
theorem for_rng {lo : Int} {n : Nat} {B : (L2.St → Hp → Prop) → V → L2.St → Hp → Prop} {nx : L2.St → Hp → Prop} {σ : L2.St} {H : Hp} (Pv : Nat → L2.St → Hp → Prop) (h0 : Pv 0 σ H)
    (hs : ∀ (i : Nat) σ' H', i < n → Pv i σ' H' → B (Pv (i + 1)) (.int (lo + i)) σ' H') (hd : ∀ σ' H', Pv n σ' H' → nx σ' H') :
    ∃ W : Nat → Nat → L2.St → Hp → Prop, (∃ m, W 0 m σ H) ∧ ∀ i m σ H, W i m σ H →
      ((Itr lo n).stop i H ∧ nx σ H) ∨ ((Itr lo n).go i H ∧ ∃ N : L2.St → Hp → Prop, (∀ σ' H', N σ' H' → ∃ m', m' < m ∧ W (i + 1) m' σ' H') ∧ ∀ x H', (Itr lo n).yld i H x H' → B N x σ H') := by
  refine ⟨fun i m σ H => m = n - i ∧ i ≤ n ∧ Pv i σ H, ⟨n, by simp, Nat.zero_le _, h0⟩, ?_⟩
  rintro i m σ' H' ⟨rfl, hi, p⟩
  by_cases c : i < n
  · refine Or.inr ⟨c, Pv (i + 1), fun σ2 H2 p2 => ⟨n - (i + 1), by omega, rfl, c, p2⟩, fun x H2 y => ?_⟩
    obtain ⟨e1, e2⟩ := y
    subst e1 e2
    exact hs i σ' _ c p
  · have e : i = n := by omega
    subst e
    exact Or.inl ⟨by show i ≤ i; omega, hd σ' H' p⟩

/-- a loop over a list, its body already read -/
theorem for_lst {K : PySem.W.Frag} {a : Addr} {xs : List V} {B : (L2.St → Hp → Prop) → V → L2.St → Hp → Prop} {nx : L2.St → Hp → Prop} {σ : L2.St} {H : Hp} (Pv : Nat → L2.St → Hp → Prop) (h0 : Pv 0 σ H)
    (hl : ∀ i σ' H', i ≤ xs.length → Pv i σ' H' → SqL K H' a xs)
    (hs : ∀ (i : Nat) x σ' H', xs[i]? = some x → Pv i σ' H' → B (Pv (i + 1)) x σ' H') (hd : ∀ σ' H', Pv xs.length σ' H' → nx σ' H') :
    ∃ W : Nat → Nat → L2.St → Hp → Prop, (∃ m, W 0 m σ H) ∧ ∀ i m σ H, W i m σ H →
      ((Itl K a).stop i H ∧ nx σ H) ∨ ((Itl K a).go i H ∧ ∃ N : L2.St → Hp → Prop, (∀ σ' H', N σ' H' → ∃ m', m' < m ∧ W (i + 1) m' σ' H') ∧ ∀ x H', (Itl K a).yld i H x H' → B N x σ H') := by
  refine ⟨fun i m σ H => m = xs.length - i ∧ i ≤ xs.length ∧ Pv i σ H, ⟨xs.length, by simp, Nat.zero_le _, h0⟩, ?_⟩
  rintro i m σ' H' ⟨rfl, hi, p⟩
  have ql := hl i σ' H' hi p
  by_cases c : i < xs.length
  · refine Or.inr ⟨⟨xs, xs[i], ql, by simp [c]⟩, Pv (i + 1), fun σ2 H2 p2 => ⟨xs.length - (i + 1), by omega, rfl, c, p2⟩, fun x H2 y => ?_⟩
    obtain ⟨e1, e2⟩ := y
    subst e1
    exact hs i x σ' _ (e2 xs ql) p
  · have e : i = xs.length := by omega
    subst e
    exact Or.inl ⟨⟨xs, ql, Nat.le_refl _⟩, hd σ' H' p⟩

theorem same_kp {a : Addr} {H H1 H2 : Hp} (s : Same H H1) (n : H a = none) (k : Kp a H1 H2) : Same H H2 := fun b o e => k b o (ne_of_none e n) (s b o e)
/-- [f(i) for i in range(n)] -/
theorem lc_rng {wi : TI} {j : Nat} {elt : TE} {vs : List Nat} {σ : L2.St} {H : Hp} {Q : VK} {n : Nat} (f : Nat → V) (hi : ∀ R : It → Hp → Prop, R (Itr 0 n) H → wi σ H R) (hn : n < 100000)
    (hw : ∀ x, wipe ((wipe σ vs).set j (some x)) vs = wipe σ vs)
    (he : ∀ (i : Nat) H1, i < n → Same H H1 → ∀ R : VK, (∀ H2, Same H1 H2 → R (f i) H2) → elt ((wipe σ vs).set j (some (.int (0 + (i : Int))))) H1 R)
    (q : ∀ D H', Same H H' → H D = none → H' D = some (.lst ((List.range n).map f)) → Q (.ref D) H') : tLc wi (gName j) tYes elt vs σ H Q := by
  refine hi _ fun D hD => ?_
  refine lc_range (lo := 0) (n := n) (fun m H' => Same H H' ∧ H' D = some (.lst ((List.range m).map f))) ⟨same_new hD, upd_same⟩ (fun m H1 hm h => ?_) (fun H' h => q D H' h.1 hD h.2)
  obtain ⟨h1, h2⟩ := h
  refine ⟨hw _, ?_⟩
  unfold tYes
  simp only [if_true]
  refine he m H1 hm h1 _ fun H2 s2 => ⟨(List.range m).map f, s2 _ _ h2, ?_, same_upd (h1.trans s2) hD, ?_⟩
  · rw [List.length_map, List.length_range]; exact lt_line (by omega)
  · rw [upd_same, List.range_succ, List.map_append]; rfl
end Tw

set_option Elab.async false
set_option linter.all false
set_option maxRecDepth 100000
set_option maxHeartbeats 4000000
/-! numbers that may be True or False -/
namespace Tw
open PySem PySem.Spec PyProof.Rows L2
/-- a number, True and False among them -/
inductive Nu : V → Int → Prop
  | int (i : Int) : Nu (.int i) i
  | bl (b : Bool) : Nu (.bl b) (if b = true then 1 else 0)
theorem nu_of {a : Addr} {H : Hp} {v : V} {d : PyData} (h : Da a H v d) (t : isIntD d = true) : ∃ i, Nu v i := by
  cases h with
  | int i => exact ⟨i, .int i⟩
  | bl b => exact ⟨_, .bl b⟩
  | _ => cases t
def rNl (f : Int → Int → Int) : R2 := fun x y H Q => ∃ i j, Nu x i ∧ y = .int j ∧ Q (.int (f i j)) H
def rNr (f : Int → Int → Int) : R2 := fun x y H Q => ∃ i j, x = .int i ∧ Nu y j ∧ Q (.int (f i j)) H
section
variable {X : Cx}
theorem op_addNl : OpR X (binaryOp .Add) (rNl fun i j => i + j) := by
  intro pins s σ H x y v u Q I rx ry h
  obtain ⟨i, j, nx, rfl, q⟩ := h
  obtain ⟨t, rfl⟩ := ry
  cases nx with
  | int _ => obtain ⟨t', rfl⟩ := rx; exact add_int ⟨.int _, H, I.tok _, ⟨_, rfl⟩, q⟩
  | bl b => cases rx; exact IntBool.add_bool_int ⟨.int _, H, I.tok _, ⟨_, rfl⟩, q⟩
theorem op_subNl : OpR X (binaryOp .Sub) (rNl fun i j => i - j) := by
  intro pins s σ H x y v u Q I rx ry h
  obtain ⟨i, j, nx, rfl, q⟩ := h
  obtain ⟨t, rfl⟩ := ry
  cases nx with
  | int _ => obtain ⟨t', rfl⟩ := rx; exact sub_int ⟨.int _, H, I.tok _, ⟨_, rfl⟩, q⟩
  | bl b => cases rx; exact IntBool.sub_bool_int ⟨.int _, H, I.tok _, ⟨_, rfl⟩, q⟩
theorem op_subNr : OpR X (binaryOp .Sub) (rNr fun i j => i - j) := by
  intro pins s σ H x y v u Q I rx ry h
  obtain ⟨i, j, rfl, ny, q⟩ := h
  obtain ⟨t, rfl⟩ := rx
  cases ny with
  | int _ => obtain ⟨t', rfl⟩ := ry; exact sub_int ⟨.int _, H, I.tok _, ⟨_, rfl⟩, q⟩
  | bl b => cases ry; exact IntBool.sub_int_bool ⟨.int _, H, I.tok _, ⟨_, rfl⟩, q⟩
/-- a small number times such a one -/
theorem op_mulNr : OpR X (binaryOp .Mult) (fun x y H Q => ∃ i j, x = .int i ∧ (-(2 ^ 64) < i ∧ i < 2 ^ 64) ∧ Nu y j ∧ Q (.int (i * j)) H) := by
  intro pins s σ H x y v u Q I rx ry h
  obtain ⟨i, j, rfl, ⟨b1, b2⟩, ny, q⟩ := h
  obtain ⟨t, rfl⟩ := rx
  cases ny with
  | int _ => obtain ⟨t', rfl⟩ := ry; exact mul_int ⟨.int _, H, I.tok _, ⟨_, rfl⟩, q⟩ (.of_left (intBits_le_64 b1 b2))
  | bl b => cases ry; exact IntBool.mul_int_bool ⟨.int _, H, I.tok _, ⟨_, rfl⟩, q⟩
/-- == of such a number and an int -/
theorem op_eqNl : OpR X (compareOp .Eq) (fun x y H Q => ∃ i j, Nu x i ∧ y = .int j ∧ Q (.bl (i == j)) H) := by
  intro pins s σ H x y v u Q I rx ry h
  obtain ⟨i, j, nx, rfl, q⟩ := h
  obtain ⟨t, rfl⟩ := ry
  cases nx with
  | int _ => obtain ⟨t', rfl⟩ := rx; exact eq_int ⟨.bl _, H, I, rfl, q⟩
  | bl b => cases rx; exact EqBoolInt.eq_bool_int ⟨.bl _, H, I, rfl, q⟩
end
end Tw

set_option Elab.async false
set_option linter.all false
set_option maxRecDepth 100000
set_option maxHeartbeats 4000000
/-! slices, sums, turned tuples of data -/
namespace Tw
open PySem PySem.Spec PyProof.Rows L2
section
variable {K : PySem.W.Frag} {a : Addr} {H : Hp} {v u : V} {ds es : List PyData} {Q : VK}
theorem da_tup (h : Da a H v (.tuple ds)) : ∃ p xs, v = .ref p ∧ p ≠ a ∧ H p = some (.tup xs) ∧ DaAll a H xs ds := by
  cases h with
  | tup n e r => exact ⟨_, _, rfl, n, e, r⟩
theorem cut_whole {ds : List PyData} {lo hi : Option Int} (h : HT.sIx ds.length 0 lo = 0 ∧ HT.sIx ds.length ds.length hi = ds.length) : cutD ds lo hi = ds := by
  unfold cutD
  rw [h.1, h.2, List.drop_zero, Nat.sub_zero, List.take_length]
theorem sl_da {lo hi : Option Int} (w : H a ≠ none) (h : Da a H v (.tuple ds)) (q : ∀ v' H', Same H H' → Da a H' v' (.tuple (cutD ds lo hi)) → Q v' H') : rSlA K v lo hi H Q := by
  obtain ⟨p, xs, rfl, np, hp, hx⟩ := da_tup h
  refine ⟨p, xs, rfl, SqT.of hp, fun c => ?_, fun c t nt => ?_⟩
  · rw [hx.len] at c
    exact q _ _ (Same.refl H) (by rw [cut_whole c]; exact h)
  · have s := same_new (o := .tup (cutV xs lo hi)) nt
    exact q _ _ s (.tup (new_ne w nt) upd_same ((hx.cut lo hi).same s))
theorem cat_da (w : H a ≠ none) (h : Da a H v (.tuple ds)) (g : Da a H u (.tuple es)) (hz : ds.length + es.length ≤ 100000) (q : ∀ v' H', Same H H' → Da a H' v' (.tuple (ds ++ es)) → Q v' H') : rCatA K v u H Q := by
  obtain ⟨p, xs, rfl, np, hp, hx⟩ := da_tup h
  obtain ⟨r, ys, rfl, nr, hr, hy⟩ := da_tup g
  refine ⟨p, r, xs, ys, rfl, rfl, SqT.of hp, SqT.of hr, sz (by rw [hx.len, hy.len]; exact hz), fun c => ?_, fun c c2 => ?_, fun c c2 t nt => ?_⟩
  · subst c
    cases hx
    exact q _ _ (Same.refl H) g
  · subst c2
    cases hy
    exact q _ _ (Same.refl H) (by rw [List.append_nil]; exact h)
  · have s := same_new (o := .tup (xs ++ ys)) nt
    exact q _ _ s (.tup (new_ne w nt) upd_same ((hx.append hy).same s))
theorem rev_da (w : H a ≠ none) (h : Da a H v (.tuple ds)) (q : ∀ v' H', Same H H' → Da a H' v' (.tuple ds.reverse) → Q v' H') :
    ∃ p xs, v = .ref p ∧ SqT K H p xs ∧ ∀ t, H t = none → Q (.ref t) (upd H t (.tup xs.reverse)) := by
  obtain ⟨p, xs, rfl, np, hp, hx⟩ := da_tup h
  refine ⟨p, xs, rfl, SqT.of hp, fun t nt => ?_⟩
  have s := same_new (o := .tup xs.reverse) nt
  exact q _ _ s (.tup (new_ne w nt) upd_same (hx.rev.same s))
theorem list_da (w : H a ≠ none) (h : Da a H v (.tuple ds)) (q : ∀ v' H', Same H H' → Da a H' v' (.list ds) → Q v' H') :
    ∃ p ys, [v] = [.ref p] ∧ (SqL K H p ys ∨ SqT K H p ys) ∧ ∀ l, H l = none → Q (.ref l) (upd H l (.lst ys)) := by
  obtain ⟨p, xs, rfl, np, hp, hx⟩ := da_tup h
  refine ⟨p, xs, rfl, .inr (SqT.of hp), fun t nt => ?_⟩
  have s := same_new (o := .lst xs) nt
  exact q _ _ s (.lst (new_ne w nt) upd_same (hx.same s))
/-- a written tuple of values that are data -/
theorem tup_da {vs : List V} (w : H a ≠ none) (h : DaAll a H vs ds) (hz : ds.length ≤ 100000) (q : ∀ v' H', Same H H' → Da a H' v' (.tuple ds) → Q v' H') :
    vs.length ≤ sizeLine ∧ ∀ p, H p = none → Q (.ref p) (upd H p (.tup vs)) := by
  refine ⟨sz (by rw [h.len]; exact hz), fun t nt => ?_⟩
  have s := same_new (o := .tup vs) nt
  exact q _ _ s (.tup (new_ne w nt) upd_same (h.same s))
theorem newT {vs : List V} {p : Addr} (w : H a ≠ none) (h : DaAll a H vs ds) (n : H p = none) : Same H (upd H p (.tup vs)) ∧ Da a (upd H p (.tup vs)) (.ref p) (.tuple ds) :=
  ⟨same_new n, .tup (new_ne w n) upd_same (h.same (same_new n))⟩
theorem newL {vs : List V} {p : Addr} (w : H a ≠ none) (h : DaAll a H vs ds) (n : H p = none) : Same H (upd H p (.lst vs)) ∧ Da a (upd H p (.lst vs)) (.ref p) (.list ds) :=
  ⟨same_new n, .lst (new_ne w n) upd_same (h.same (same_new n))⟩
/-- an item of such a one -/
theorem ix_da {i : Int} (h : Da a H v (.tuple ds)) (i0 : 0 ≤ i) (i1 : i < ds.length) (q : ∀ x d, d ∈ ds → Da a H x d → Q x H) : rIxT K v (.int i) H Q := by
  obtain ⟨p, xs, rfl, np, hp, hx⟩ := da_tup h
  obtain ⟨m, rfl⟩ := Int.eq_ofNat_of_zero_le i0
  have hm : m < xs.length := by rw [hx.len]; omega
  obtain ⟨d, e1, e2⟩ := hx.get (List.getElem?_eq_getElem hm)
  exact ⟨p, xs, _, xs[m], rfl, rfl, SqT.of hp, atI_nat (List.getElem?_eq_getElem hm), q _ d (List.mem_of_getElem? e1) e2⟩
end
theorem cut_mem {ds : List PyData} {lo hi : Option Int} {d : PyData} (h : d ∈ cutD ds lo hi) : d ∈ ds := List.mem_of_mem_drop (List.mem_of_mem_take h)
theorem cut_le (ds : List PyData) (lo hi : Option Int) : (cutD ds lo hi).length ≤ ds.length := by
  unfold cutD
  rw [List.length_take, List.length_drop]
  omega
theorem cut_upto (ds : List PyData) (k : Nat) : (cutD ds none (some (k : Int))).length = min k ds.length := by
  unfold cutD
  rw [HT.sIx_nat, HT.sIx_none, List.drop_zero, Nat.sub_zero, List.length_take]
  omega
theorem cut_from (ds : List PyData) (k : Nat) : (cutD ds (some (k : Int)) none).length = ds.length - min k ds.length := by
  unfold cutD
  rw [HT.sIx_nat, HT.sIx_none, List.length_take, List.length_drop]
  omega
theorem sm_sub {n m n' m' : Nat} {ds es : List PyData} (h : Sm n m (.tuple ds)) (hl : es.length ≤ m') (h1 : n ≤ n') (h2 : m ≤ m') (he : ∀ e ∈ es, e ∈ ds ∨ Sm (n' - 1) m' e) : Sm n' m' (.tuple es) := by
  have n1 := h.dep1
  have := sm_tup (n := n' - 1) hl fun e q => by
    rcases he e q with c | c
    · exact (h.mem c).up (by omega) h2
    · exact c
  exact this.up (by omega) (Nat.le_refl _)
theorem sm_subL {n m n' m' : Nat} {ds es : List PyData} (h : Sm n m (.tuple ds)) (hl : es.length ≤ m') (h1 : n ≤ n') (h2 : m ≤ m') (he : ∀ e ∈ es, e ∈ ds ∨ Sm (n' - 1) m' e) : Sm n' m' (.list es) := by
  have n1 := h.dep1
  have := sm_lst (n := n' - 1) hl fun e q => by
    rcases he e q with c | c
    · exact (h.mem c).up (by omega) h2
    · exact c
  exact this.up (by omega) (Nat.le_refl _)
theorem sm_int (n m : Nat) (i : Int) : Sm n m (.int i) := ⟨Nat.zero_le _, Nat.zero_le _⟩
theorem sm_bl (n m : Nat) (b : Bool) : Sm n m (.bool b) := ⟨Nat.zero_le _, Nat.zero_le _⟩
end Tw

set_option Elab.async false
set_option linter.all false
set_option maxRecDepth 100000
set_option maxHeartbeats 4000000
/-! rules: max with default, few times a tuple, *= and >>=, statements that are not reached -/
namespace Tw
open PySem PySem.Spec PyProof.Rows L2
section
variable {X : Cx}
/-- a statement that is not reached -/
def tDead : TS := fun _ _ _ => False
theorem ps_dead {st : Stmt} : PS X st tDead := ⟨fun _ _ _ _ _ _ h => h.elim⟩
theorem pss_dead {st : List Stmt} : PSs X st tDead := ⟨fun _ _ _ _ _ _ h => h.elim⟩
/-- max(l, default=0) of ints that are not negative -/
def maxN (ns : List Int) : Int := ns.foldl max 0
def rMaxZ (K : PySem.W.Frag) : List V → List V → Hp → VK → Prop := fun vs zs H Q => ∃ (a : Addr) (ns : List Int), vs = [.ref a] ∧ zs = [.int 0] ∧ SqL K H a (ns.map V.int) ∧ (∀ n ∈ ns, 0 ≤ n) ∧ Q (.int (maxN ns)) H
theorem cr_maxZ (hc : X.calm = true) (hu : X.A.units + 64 < cLine) : CallRK X (.builtin "max") [Str.ofString "default"] (rMaxZ X.K) := by
  intro pins s σ H vs zs us ws Q I r rz h
  obtain ⟨a, ns, rfl, rfl, hs, hn, q⟩ := h
  obtain ⟨its, rv, hl, _⟩ := I.list hs
  rw [Vals.ref1 r]
  obtain ⟨w1, rfl, e1⟩ := vals1 rz
  obtain ⟨t, rfl⟩ : ∃ t, w1 = Value.int 0 t := e1
  have rd : ReadsAll s.heap its.toArray.toList (ns.map .int) [] := IntsAre.reads _ rv.ints
  have dz : ∀ l : List Int, PyData.depthAll (l.map .int) = 0 := fun l => by
    induction l with
    | nil => rfl
    | cons n l ih => simp only [List.map_cons, PyData.depthAll, PyData.depth, ih]; rfl
  refine PySem.W.max_list_default (xs := ns.map .int) (I.ok.hd hc) hl.isList rd ⟨fun x hx y hy => ?_, fun x hx => ?_⟩ (by rw [dz]; show X.A.units + 1 + 0 < cLine; omega) (fun e h' tk k => ?_) (fun y ys i v h' tk bs e hv rv' k => ?_)
  · obtain ⟨i, _, rfl⟩ := List.mem_map.mp hx
    obtain ⟨j, _, rfl⟩ := List.mem_map.mp hy
    simp only [PySem.W.alike]
  · obtain ⟨i, _, rfl⟩ := List.mem_map.mp hx
    exact fun e => by cases e
  · have : ns = [] := by simpa using e
    subst this
    exact ⟨.int _, H, I.kept k, ⟨_, rfl⟩, q⟩
  · cases ns with
    | nil => cases e
    | cons n l =>
      rw [List.map_cons] at e
      injection e with e1 e2
      subst e1 e2
      rw [PySem.W.maxD_ints] at rv'
      cases rv' with
      | int _ t' =>
        have n0 := hn n (by simp)
        refine ⟨.int _, H, I.kept k, ⟨_, rfl⟩, ?_⟩
        have : maxN (n :: l) = l.foldl max n := by
          unfold maxN
          rw [List.foldl_cons]
          congr 1
          omega
        rw [← this]
        exact q
/-- o *= e, one of them small -/
theorem ip_mul : PIp X .Mult (fun x y H Q => ∃ i j, x = .int i ∧ y = .int j ∧ CMul i j ∧ Q (.int (i * j)) H) := by
  intro pins s σ H x y v u Q I r1 r2 h
  obtain ⟨i, j, rfl, rfl, c, q⟩ := h
  obtain ⟨t, rfl⟩ := r1
  obtain ⟨t', rfl⟩ := r2
  exact PyProof.Rows.imul_int ⟨.int _, H, I.tok _, ⟨_, rfl⟩, q⟩ c.ok
/-- o >>= 1 -/
theorem ip_half : PIp X .RShift (fun x y H Q => ∃ n : Nat, x = .int (n : Int) ∧ y = .int 1 ∧ Q (.int ((n / 2 : Nat) : Int)) H) := by
  intro pins s σ H x y v u Q I r1 r2 h
  obtain ⟨n, rfl, rfl, q⟩ := h
  obtain ⟨t, rfl⟩ := r1
  obtain ⟨t', rfl⟩ := r2
  refine PyProof.Rows.irshift_int (by decide) ?_
  rw [show (2 : Int) ^ (1 : Int).toNat = 2 from rfl, Int.fdiv_eq_ediv_of_nonneg _ (by decide)]
  exact ⟨.int _, H, I.tok _, ⟨_, rfl⟩, q⟩

/-! k times a tuple, k from 0 on -/
theorem tuple_mul1 (l : Addr) (items : Array Value) (n : Nat) (dd : Option Addr) (sl : Array (Option Value)) (u : Tok) :
    Meets (Builtin.«tuple.__mul__» ⟨[.ref l, .int 1 u], []⟩) (fun _ R s => s.heap.get? l = some { cls := .type "tuple", dict := dd, data := .seq items n, slots := sl } ∧ R (.ok (.ret (Value.ref l))) s) :=
  .of_wp fun prog w A R s h => by
    obtain ⟨hp, g, d, tk, os⟩ := s
    obtain ⟨hl, h⟩ := h
    have f1 := AutoSeq1.idx_int
    wp_walk using wpAny_loadPart' hl
    repeat (first
      | (refine wpAny_ite_false (by decide) ?_; wp_walk using wpAny_loadPart' hl)
      | (refine wpAny_ite_true (by simp) ?_; wp_walk using wpAny_loadPart' hl))
    exact ⟨_, rfl, h⟩
theorem tuple_mul0 (l : Addr) (items : Array Value) (n : Nat) (dd : Option Addr) (sl : Array (Option Value)) (u : Tok) (c1 : (items.isEmpty || (0 : Int) == 1) = false) :
    Meets (Builtin.«tuple.__mul__» ⟨[.ref l, .int 0 u], []⟩) (fun _ R s => s.heap.get? l = some { cls := .type "tuple", dict := dd, data := .seq items n, slots := sl } ∧
      R (.ok (.ret (Value.ref s.heap.objs.size))) { s with heap := s.heap.push { cls := Value.type "tuple", data := Data.seq #[] }, toks := s.toks }) :=
  .of_wp fun prog w A R s h => by
    obtain ⟨hp, g, d, tk, os⟩ := s
    obtain ⟨hl, h⟩ := h
    have f1 := AutoSeq1.idx_int
    wp_walk using wpAny_loadPart' hl
    repeat (first
      | (refine wpAny_ite_false (decide_eq_false (by rw [c1]; exact Bool.false_ne_true)) ?_; wp_walk using wpAny_loadPart' hl)
      | (refine wpAny_ite_false (by decide) ?_; wp_walk using wpAny_loadPart' hl)
      | (refine wpAny_ite_true (by simp) ?_; wp_walk using wpAny_loadPart' hl))
    exact ⟨_, rfl, h⟩
def rMulT (K : PySem.W.Frag) : R2 := fun x y H Q => ∃ (l : Addr) (k : Nat) (xs : List V), x = .ref l ∧ y = .int (k : Int) ∧ SqT K H l xs ∧ xs ≠ [] ∧ k ≤ 1000 ∧ xs.length ≤ 1000 ∧
  ∀ t H', Same H H' → SqT K H' t (List.replicate k xs).flatten → Q (.ref t) H'
theorem op_mulT : OpR X (binaryOp .Mult) (rMulT X.K) := by
  intro pins s σ H x y v u Q I rx ry h
  obtain ⟨l, k, xs, rfl, rfl, hT, hne, h1, hz, q⟩ := h
  rcases Nat.lt_or_ge 1 k with h2 | h2
  · exact op_repT pins s σ H _ _ v u Q I rx ry ⟨l, _, xs, rfl, rfl, hT, hne, by omega, by omega, hz, fun p np => q p _ (same_new np) (SqT.of (by rw [Int.toNat_natCast]; exact upd_same))⟩
  have rx' := rx
  cases rx
  obtain ⟨t, rfl⟩ := ry
  obtain ⟨its, r, ⟨⟨cls, dd, data, sl⟩, ho, hc, n, hd⟩, hs⟩ := I.tuple hT
  simp only at hc hd
  subst hc hd
  have hle : its.length = xs.length := r.length.symm
  have hn : its ≠ [] := fun e => hne (by
    rw [e] at hle
    exact List.eq_nil_of_length_eq_zero hle.symm)
  have hi : its.toArray.isEmpty = false := by
    cases its with
    | nil => exact absurd rfl hn
    | cons a b => rfl
  have hk : k = 0 ∨ k = 1 := by omega
  rcases hk with rfl | rfl
  · refine wpAny_binaryOp_repeat_ref (T := "tuple") (U := "int") (by decide) ⟨_, ho, rfl⟩ (fun s' => typeIs_int s' _ t) noFill_tuple_mul F.fills_int_mul F.slot_int_rmul repeat_tuple F.slot_int_index.lookup
      (call_meets F.slot_int_rmul (typeIs_int s _ t) F.entry_int_rmul (F.args_int_rmul_2 _ _) (int_rmul_tuple _ t l its.toArray n dd sl)
        ⟨ho, rfl, ⟨_, ho, rfl⟩, call_meets F.slot_tuple_mul ⟨_, ho, rfl⟩ F.entry_tuple_mul (F.args_tuple_mul_2 _ _) (tuple_mul0 l its.toArray n dd sl t (by rw [hi]; rfl)) ⟨ho, ?_⟩⟩)
    refine ⟨.ref s.heap.objs.size, _, I.laid (t' := s.toks) (o := .tup []) (fun b ob q => Heap.get?_push_of_some _ q) (Nat.le_refl _) ?_, rfl, q _ _ (same_new (I.hok.fresh (Nat.le_refl _))) (SqT.of upd_same)⟩
    exact ⟨by simp, _, .nil, IsTup.new _ _⟩
  · refine wpAny_binaryOp_repeat_ref (T := "tuple") (U := "int") (by decide) ⟨_, ho, rfl⟩ (fun s' => typeIs_int s' _ t) noFill_tuple_mul F.fills_int_mul F.slot_int_rmul repeat_tuple F.slot_int_index.lookup
      (call_meets F.slot_int_rmul (typeIs_int s _ t) F.entry_int_rmul (F.args_int_rmul_2 _ _) (int_rmul_tuple _ t l its.toArray n dd sl)
        ⟨ho, rfl, ⟨_, ho, rfl⟩, call_meets F.slot_tuple_mul ⟨_, ho, rfl⟩ F.entry_tuple_mul (F.args_tuple_mul_2 _ _) (tuple_mul1 l its.toArray n dd sl t) ⟨ho, ?_⟩⟩)
    exact ⟨.ref l, H, I, rfl, q _ _ (Same.refl H) (by simpa using hT)⟩
end
end Tw

set_option Elab.async false
set_option linter.all false
set_option maxRecDepth 100000
set_option maxHeartbeats 4000000
/-! for i, x in enumerate(t), t a tuple -/
namespace Tw
open PySem PySem.Spec PyProof.Rows L2
/-- the tuple's iterator, the enumerate over it, as they are made -/
def itO (p : Addr) : Obj :=
  { cls := .type "tuple_iterator", data := .fields #[.ref p, .int 0 0] }
def enO (i : Addr) : Obj :=
  { cls := .type "enumerate", data := .fields #[.none, .bool false, .ref i, rawInt 0, .none, .none] }
theorem enum_newT (p : Addr) (its : Array Value) (k : Nat) (dd : Option Addr) (sl : Array (Option Value)) :
    Meets (Builtin.«enumerate.__new__» ⟨[.type "enumerate", .ref p], []⟩) (fun _ R s =>
      s.heap.get? p = some ⟨.type "tuple", dd, .seq its k, sl⟩ ∧
      R (.ok (.ret (.ref (s.heap.push (itO p)).objs.size))) { s with heap := (s.heap.push (itO p)).push (enO s.heap.objs.size) }) := by
  refine .of_wp fun prog w A R s h => ?_
  obtain ⟨hp, gn, dr, tk, os⟩ := s
  obtain ⟨hl, h⟩ := h
  have hsub := sub_enumerate
  have isT : (Shared.heap ⟨hp, gn, dr, tk, os⟩).IsTuple p its := ⟨_, hl, rfl, k, rfl⟩
  wp_walk using AutoSeq1.wpAny_loadPart' hl
  refine wpAny_stack_any fun _ => ?_
  refine wpAny_pure ?_
  split
  · rename_i c _ _ _ _ _
    cases (c == Value.type "enumerate") <;>
    · wp_walk using AutoSeq1.wpAny_loadPart' hl, wpAny_pyIter_tuple isT
      exact ⟨_, rfl, h⟩
  · wp_walk using AutoSeq1.wpAny_loadPart' hl, wpAny_pyIter_tuple isT
    exact ⟨_, rfl, h⟩
section
variable {prog : Program} {w : World} {A : Around} {E : Value → Shared → Prop} {s : Shared}
theorem call_enumT {p : Addr} {its : Array Value} {Q : Value → Shared → Prop} (hT : s.heap.IsTuple p its)
    (h : ∀ h', IsEnum h' (s.heap.objs.size + 1) s.heap.objs.size 0 .none → h'.IsTupleIter s.heap.objs.size p 0 →
      (∀ b o, s.heap.get? b = some o → h'.get? b = some o) → Q (.ref (s.heap.objs.size + 1)) { s with heap := h' }) :
    wpAny (model prog w) A (call (.type "enumerate") [.ref p]) Q E s := by
  obtain ⟨⟨c, dd, dt, sl⟩, hl, hc, k, hd⟩ := hT
  cases (show c = .type "tuple" from hc)
  cases (show dt = .seq its k from hd)
  have z1 : (s.heap.push (itO p)).objs.size = s.heap.objs.size + 1 := Heap.size_push ..
  have g1 : ((s.heap.push (itO p)).push (enO s.heap.objs.size)).get? (s.heap.objs.size + 1) = some (enO s.heap.objs.size) := by
    rw [← z1]
    exact Heap.get?_push_size _ rfl
  have g0 : ((s.heap.push (itO p)).push (enO s.heap.objs.size)).get? s.heap.objs.size = some (itO p) :=
    Heap.get?_push_of_some _ (Heap.get?_push_size _ rfl)
  refine callType_new F.called_enumerate (by decide) (F.typeCall_enumerate_1 _) (F.newCall_enumerate_1 _)
    (fun obj => F.args_object_init_2 obj _) F.entry_enumerate_new (enum_newT p its k dd sl) ⟨hl, ?_⟩
  show _ ∧ _
  rw [z1]
  exact ⟨⟨_, g1, rfl⟩, h _ g1 ⟨_, g0, rfl, rfl⟩ fun b o y => Heap.get?_push_of_some _ (Heap.get?_push_of_some _ y)⟩
end
/-- the tuple at a, each item in a new pair with its number -/
def IteT (K : PySem.W.Frag) (a : Addr) : It where
  go := fun i H => ∃ (xs : List V) (x : V), SqT K H a xs ∧ xs[i]? = some x
  yld := fun i H v H' => ∃ t x, v = .ref t ∧ H t = none ∧ H' = upd H t (.tup [.int (i : Nat), x]) ∧
    ∀ xs, SqT K H a xs → xs[i]? = some x
  stop := fun i H => ∃ xs : List V, SqT K H a xs ∧ xs.length = i
theorem apart {h : Heap} {a b : Addr} {o u : Obj} {m n : String} (ha : h.get? a = some o) (hb : h.get? b = some u)
    (ca : o.cls = .type m) (cb : u.cls = .type n) (d : m ≠ n) : a ≠ b := by
  rintro rfl
  rw [ha] at hb
  cases hb
  rw [ca] at cb
  cases cb
  exact d rfl
theorem turn_enumT {P : Program} {w : World} {K : PySem.W.Frag} {elts : List Expr} {kk : Nat} {tpos : Pos} (a e it : Addr) :
    Turn P w K (.Tuple elts kk tpos) (IteT K a) [e, it] e
      (fun i h => (∃ old, IsEnum h e it ((i : Nat) : Int) old) ∧ h.IsTupleIter it a i ∧ e ≠ it) where
  mem := by simp
  obj := fun i h st b hb => by
    obtain ⟨⟨old, he⟩, ⟨o, ho, hc, hd⟩, _⟩ := st
    rcases List.mem_cons.mp hb with z | z
    · subst z; exact ⟨_, he, fun v q => nomatch q⟩
    · have z := List.mem_singleton.mp z
      subst z; exact ⟨o, ho, fun v q => by rw [hd] at q; cases q⟩
  keep := fun i h h' st k => by
    obtain ⟨⟨old, he⟩, hi, hne⟩ := st
    exact ⟨⟨old, k e (by simp) _ he⟩, hi.at fun o q => k it (by simp) o q, hne⟩
  item := by
    intro X hP hw hK hc i pins s σ H E I hf st hg
    subst hP hw hK
    obtain ⟨⟨old, he⟩, hit, hne⟩ := st
    obtain ⟨xs, x, hq, hx⟩ := hg
    obtain ⟨its, rv, p, hz⟩ := I.tuple hq
    obtain ⟨u, hu, ru⟩ := rv.get hx
    have isT : s.heap.IsTuple a its.toArray := p
    obtain ⟨oa, ga, ca, _⟩ := id isT
    obtain ⟨oi, gi, ci, _⟩ := id hit
    have nai : a ≠ it := apart ga gi ca ci (by decide)
    have nea : e ≠ a := apart he ga rfl ca (by decide)
    have hel : e < s.heap.objs.size := Heap.lt_size he
    have hil : it < s.heap.objs.size := Heap.lt_size gi
    have hlt : i < its.toArray.size := by
      have := (List.getElem?_eq_some_iff.mp hu).1
      simpa using this
    refine wpAny_pyNext_enum_itemD (Draws.tuple (A := X.A.in1) (I.ok.hd hc) it a nai its.toArray) he ⟨hit, isT⟩ hlt hne
      (by simp [hne, nea]) fun y h' tk hy ho st' hT hsz hk => ?_
    have yu : y = u := by
      have : its[i]? = some y := by simpa using hy
      rw [hu] at this
      cases this; rfl
    subst yu
    refine ⟨_, rfl, wpAny_letOwnedTupleGo_enum (s := { s with heap := h', toks := tk + 1 }) ho fun h2 he2 sb => ?_⟩
    have hT2 := (sb.2 _ (Nat.ne_of_gt hel)).trans hT
    have new : ObjOk X.prog X.w (upd H s.heap.objs.size (.tup [.int (i : Nat), x])) h2 s.heap.objs.size (.tup [.int (i : Nat), x]) :=
      ⟨by show 2 ≤ sizeLine; decide, [.int i tk, y], .cons ⟨_, rfl⟩ (.cons ru .nil), ⟨_, hT2, rfl, _, rfl⟩⟩
    have old2 : ∀ b ob, b ∉ [e, it] → s.heap.get? b = some ob → h2.get? b = some ob := fun b ob hb q => by
      have b1 : b ≠ e := fun z => hb (by simp [z])
      have b2 : b ≠ it := fun z => hb (by simp [z])
      exact (sb.2 b b1).trans (hk b ob b1 b2 q)
    have I1 := I.turnedNew (t' := tk + 1) (ch := [e, it]) old2 hf (Nat.le_refl _) new
    refine ⟨.ref s.heap.objs.size, _, I1, rfl, ⟨_, x, rfl, I.hok.fresh (Nat.le_refl _), rfl, fun ys hy => by rw [I.tuple_inj hy hq]; exact hx⟩,
      ⟨⟨y, he2⟩, st'.1.at fun o q => (sb.2 it (Ne.symm hne)).trans q, hne⟩, fun b hb => ?_⟩
    have hb' : b < s.heap.objs.size := by
      rcases List.mem_cons.mp hb with z | z
      · rw [z]; exact hel
      · rw [List.mem_singleton.mp z]; exact hil
    rw [upd_ne (Nat.ne_of_lt hb')]
    exact (hf b hb).1
  done := by
    intro X hP hw hK hc i pins s σ H E I hf st hg
    subst hP hw hK
    obtain ⟨⟨old, he⟩, hit, hne⟩ := st
    obtain ⟨xs, hq, hx⟩ := hg
    obtain ⟨its, rv, p, hz⟩ := I.tuple hq
    obtain ⟨oa, ga, ca, _⟩ := id (show s.heap.IsTuple a its.toArray from p)
    obtain ⟨oi, gi, ci, _⟩ := id hit
    have nai : a ≠ it := apart ga gi ca ci (by decide)
    obtain ⟨f0, f1, f2, f3, f4, f5⟩ := hf it (by simp)
    have ei : i = its.toArray.size := by
      rw [← hx, rv.length, List.size_toArray]
    subst ei
    refine wpAny_pyNext_enum_endD (Draws.tuple (A := X.A.in1) (I.ok.hd hc) it a nai its.toArray) he ⟨hit, p⟩ fun h' eb => ?_
    exact ⟨rfl, I.turned (t' := s.toks) (fun b o hb q => eb b o hb q) f0 f1 f3 f4 f5⟩
  self := fun A i s Q E st h => by
    obtain ⟨⟨_, he⟩, _⟩ := st
    exact wpAny_pyIter_enum he h
/-- enumerate(e), e a tuple -/
def iEnumT (K : PySem.W.Frag) (te : TE) : TI := fun σ H R =>
  te σ H fun v H1 => ∃ a xs, v = .ref a ∧ SqT K H1 a xs ∧ R (IteT K a) H1
theorem pi_enumT {X : Cx} {e : Expr} {te : TE} {p pos tpos : Pos} {elts : List Expr} {kk : Nat} (hg : Gl X "enumerate")
    (hm : X.mg "enumerate" = none) (he : PE X e te) (hs : starEach [e] X.env = (false, eval e X.env) :: starEach [] X.env := by rfl) :
    PI X (.Tuple elts kk tpos) (.Call (.Name "enumerate" p) [e] [] pos) (iEnumT X.K te) := by
  refine ⟨fun pins s σ H R I h => ?_⟩
  refine Call_ (ld_blt I hg hm boot_enumerate (PyProof.Rows.callWith_type1 (args_cons
    (thn (he.run pins s σ H _ I h) fun u s1 ⟨v, H1, I1, r1, q1⟩ => args_nil ?_) hs) hs rfl))
  obtain ⟨a, xs, rfl, hq, q⟩ := q1
  cases r1
  obtain ⟨its, rv, isT, hz⟩ := I1.tuple hq
  refine call_enumT (show s1.heap.IsTuple a its.toArray from isT) fun h' en ti keep => wpAny_pyIter_enum en ?_
  refine ⟨s1.heap.objs.size + 1, [s1.heap.objs.size + 1, s1.heap.objs.size], _, _, H1, rfl, I1.kept (t' := s1.toks) keep,
    turn_enumT a (s1.heap.objs.size + 1) s1.heap.objs.size, ⟨⟨.none, en⟩, ti, Nat.succ_ne_self _⟩, fun b hb => ?_, q⟩
  have le : s1.heap.objs.size ≤ b := by
    rcases List.mem_cons.mp hb with z | z
    · rw [z]; exact Nat.le_add_right _ _
    · rw [List.mem_singleton.mp z]; exact Nat.le_refl _
  exact I1.fpOk le (I1.hok.fresh le)
/-- a loop over such pairs, its body already read -/
theorem for_enumT {K : PySem.W.Frag} {a : Addr} {xs : List V} {B : (L2.St → Hp → Prop) → V → L2.St → Hp → Prop} {nx : L2.St → Hp → Prop} {σ : L2.St} {H : Hp}
    (Pv : Nat → L2.St → Hp → Prop) (h0 : Pv 0 σ H) (hl : ∀ i σ' H', i ≤ xs.length → Pv i σ' H' → SqT K H' a xs)
    (hs : ∀ (i : Nat) x t σ' H', xs[i]? = some x → Pv i σ' H' → H' t = none → B (Pv (i + 1)) (.ref t) σ' (upd H' t (.tup [.int (i : Nat), x])))
    (hd : ∀ σ' H', Pv xs.length σ' H' → nx σ' H') :
    ∃ W : Nat → Nat → L2.St → Hp → Prop, (∃ m, W 0 m σ H) ∧ ∀ i m σ H, W i m σ H →
      ((IteT K a).stop i H ∧ nx σ H) ∨ ((IteT K a).go i H ∧ ∃ N : L2.St → Hp → Prop, (∀ σ' H', N σ' H' → ∃ m', m' < m ∧ W (i + 1) m' σ' H') ∧
        ∀ x H', (IteT K a).yld i H x H' → B N x σ H') := by
  refine ⟨fun i m σ H => m = xs.length - i ∧ i ≤ xs.length ∧ Pv i σ H, ⟨xs.length, by simp, Nat.zero_le _, h0⟩, ?_⟩
  rintro i m σ' H' ⟨rfl, hi, p⟩
  have ql := hl i σ' H' hi p
  by_cases c : i < xs.length
  · refine Or.inr ⟨⟨xs, xs[i], ql, by simp [c]⟩, Pv (i + 1), fun σ2 H2 p2 => ⟨xs.length - (i + 1), by omega, rfl, c, p2⟩, fun v H2 y => ?_⟩
    obtain ⟨t, x, rfl, nt, rfl, e2⟩ := y
    exact hs i x t σ' H' (e2 xs ql) p nt
  · have e : i = xs.length := by omega
    subst e
    exact Or.inl ⟨⟨xs, ql, rfl⟩, hd σ' H' p⟩
/-- .. in a comprehension -/
theorem lc_enumT {K : PySem.W.Frag} {a : Addr} {xs : List V} {gt : TG} {tt : TT} {te : TE} {vs : List Nat} {σ : L2.St} {H1 : Hp} {D : Addr} {Qd : Hp → Prop}
    (Pv : Nat → Hp → Prop) (h0 : Pv 0 (upd H1 D (.lst []))) (hl : ∀ i H, i ≤ xs.length → Pv i H → SqT K H a xs)
    (hs : ∀ (i : Nat) x t H, xs[i]? = some x → Pv i H → H t = none → gt (.ref t) (wipe σ vs) (upd H t (.tup [.int (i : Nat), x])) fun σ2 H2 =>
      wipe σ2 vs = wipe σ vs ∧ tt σ2 H2 fun b H3 => if b = true then te σ2 H3 fun y H4 => ∃ acc, H4 D = some (.lst acc) ∧
        acc.length < sizeLine ∧ Pv (i + 1) (upd H4 D (.lst (acc ++ [y]))) else Pv (i + 1) H3)
    (hd : ∀ H, Pv xs.length H → Qd H) :
    ∃ W : Nat → Nat → Hp → Prop, (∃ m, W 0 m (upd H1 D (.lst []))) ∧ ∀ i m H, W i m H →
      ((IteT K a).stop i H ∧ Qd H) ∨ ((IteT K a).go i H ∧ ∃ Nx : Hp → Prop, (∀ H', Nx H' → ∃ m', m' < m ∧ W (i + 1) m' H') ∧
        ∀ x H', (IteT K a).yld i H x H' → gt x (wipe σ vs) H' fun σ2 H2 => wipe σ2 vs = wipe σ vs ∧ tt σ2 H2 fun b H3 =>
          if b = true then te σ2 H3 fun y H4 => ∃ acc, H4 D = some (.lst acc) ∧ acc.length < sizeLine ∧
            Nx (upd H4 D (.lst (acc ++ [y]))) else Nx H3) := by
  refine ⟨fun i m H => m = xs.length - i ∧ i ≤ xs.length ∧ Pv i H, ⟨xs.length, by simp, Nat.zero_le _, h0⟩, ?_⟩
  rintro i m H ⟨rfl, hi, p⟩
  have ql := hl i H hi p
  by_cases c : i < xs.length
  · refine Or.inr ⟨⟨xs, xs[i], ql, by simp [c]⟩, Pv (i + 1), fun H2 p2 => ⟨xs.length - (i + 1), by omega, rfl, c, p2⟩, fun v H2 y => ?_⟩
    obtain ⟨t, x, rfl, nt, rfl, e2⟩ := y
    exact hs i x t H (e2 xs ql) p nt
  · have e : i = xs.length := by omega
    subst e
    exact Or.inl ⟨⟨xs, ql, rfl⟩, hd H p⟩
end Tw

set_option linter.all false
set_option maxRecDepth 10000
/-! numbers, rows, polys: what the answers are -/
namespace K02
/-- without the last items that z holds of -/
def trimBy {α : Type} (z : α → Bool) : List α → List α
  | [] => []
  | a :: l => match trimBy z l with
    | [] => if z a then [] else [a]
    | b :: r => a :: b :: r
theorem trimBy_take {α : Type} (z : α → Bool) : ∀ (l : List α) (k : Nat), k ≤ l.length → (∀ i a, k ≤ i → l[i]? = some a → z a = true) → (k = 0 ∨ ∃ a, l[k - 1]? = some a ∧ z a = false) → trimBy z l = l.take k
  | [], k, hk, _, _ => by simp [trimBy]
  | a :: l, 0, _, h1, _ => by
    have ih := trimBy_take z l 0 (Nat.zero_le _) (fun i b _ e => h1 (i + 1) b (Nat.zero_le _) (by simpa using e)) (.inl rfl)
    have za := h1 0 a (Nat.le_refl _) rfl
    simp [trimBy, ih, za]
  | a :: l, 1, _, h1, h2 => by
    have ih := trimBy_take z l 0 (Nat.zero_le _) (fun i b _ e => h1 (i + 1) b (by omega) (by simpa using e)) (.inl rfl)
    have za : z a = false := by
      rcases h2 with h2 | ⟨b, e, f⟩
      · cases h2
      · simp at e; subst e; exact f
    simp [trimBy, ih, za]
  | a :: l, k + 2, hk, h1, h2 => by
    have hk' : k + 1 ≤ l.length := by rw [List.length_cons] at hk; omega
    have ih := trimBy_take z l (k + 1) hk' (fun i b hi e => h1 (i + 1) b (by omega) (by simpa using e)) (by
      rcases h2 with h2 | ⟨b, e, f⟩
      · cases h2
      · exact .inr ⟨b, by simpa using e, f⟩)
    have hn : l.take (k + 1) ≠ [] := by
      intro e
      have := congrArg List.length e
      rw [List.length_take, List.length_nil] at this
      omega
    rw [trimBy, ih]
    cases e : l.take (k + 1) with
    | nil => exact absurd e hn
    | cons b r => simp [e]
theorem trimBy_len {α : Type} (z : α → Bool) : ∀ l : List α, (trimBy z l).length ≤ l.length
  | [] => Nat.le_refl _
  | a :: l => by
    have := trimBy_len z l
    rw [trimBy]
    split
    · split <;> simp
    · rename_i b r e
      rw [e] at this
      simpa using this
theorem trimBy_mem {α : Type} (z : α → Bool) {x : α} : ∀ l : List α, x ∈ trimBy z l → x ∈ l
  | [], h => h
  | a :: l, h => by
    have ih := trimBy_mem z (x := x) l
    rw [trimBy] at h
    split at h
    · split at h
      · simp at h
      · simp at h; simp [h]
    · rename_i b r e
      rw [e] at ih
      rcases List.mem_cons.mp h with h | h
      · simp [h]
      · exact List.mem_cons_of_mem _ (ih h)
theorem trimBy_last {α : Type} (z : α → Bool) {x : α} : ∀ l : List α, (trimBy z l).getLast? = some x → z x = false
  | [], h => by simp [trimBy] at h
  | a :: l, h => by
    have ih := trimBy_last z (x := x) l
    rw [trimBy] at h
    split at h
    · split at h
      · simp at h
      · rename_i hz
        simp at h; subst h; simpa using hz
    · rename_i b r e
      rw [e] at ih
      exact ih (by simpa using h)
abbrev trimI (l : List Int) : List Int := trimBy (fun c => c == 0) l
abbrev trimP (p : List (List Int)) : List (List Int) := trimBy (fun r => r.isEmpty) p
/-- a row, a poly -/
def okR (r : List Int) : Prop := ∀ c, r.getLast? = some c → c ≠ 0
def okP (p : List (List Int)) : Prop := (∀ r ∈ p, okR r) ∧ ∀ r, p.getLast? = some r → r ≠ []
theorem okR_trim (l : List Int) : okR (trimI l) := fun c h => by
  have := trimBy_last _ _ h
  simpa using this
theorem okP_trim {p : List (List Int)} (h : ∀ r ∈ p, okR r) : okP (trimP p) := ⟨fun r hr => h r (trimBy_mem _ _ hr), fun r hr => by
  have := trimBy_last _ _ hr
  intro e
  subst e
  simp at this⟩
/-- at most n long, numbers at most b -/
def Bd (n : Nat) (b : Nat) (p : List (List Int)) : Prop := p.length ≤ n ∧ ∀ r ∈ p, r.length ≤ n ∧ ∀ c ∈ r, c.natAbs ≤ b
def T (n m : Int) : List Int → Int
  | [] => 0
  | c :: r => T n m r * n + c * m ^ r.length
def lng : List (List Int) → Nat
  | [] => 0
  | r :: p => max r.length (lng p)
theorem lng_le {r : List Int} : ∀ {p : List (List Int)}, r ∈ p → r.length ≤ lng p
  | a :: p, h => by
    rw [lng]
    rcases List.mem_cons.mp h with rfl | h
    · exact Nat.le_max_left _ _
    · exact Nat.le_trans (lng_le h) (Nat.le_max_right _ _)
theorem lng_bd {n : Nat} : ∀ {p : List (List Int)}, (∀ r ∈ p, r.length ≤ n) → lng p ≤ n
  | [], _ => Nat.zero_le _
  | r :: p, h => by
    rw [lng]
    exact Nat.max_le.mpr ⟨h r (by simp), lng_bd fun a ha => h a (by simp [ha])⟩
def numAt (n m : Int) (L : Nat) (r : List Int) : Int := T n m r * m ^ (L - r.length)
def nums (n m : Int) (p : List (List Int)) : List Int := p.map (numAt n m (lng p))
/-- what numbers and M share -/
def G : Nat → List Int → Nat
  | M, [] => M
  | M, x :: l => G (Nat.gcd M x.natAbs) l
def mm (m : Int) (k : Nat) : Nat := m.natAbs ^ k
def atx (n m : Int) (p : List (List Int)) : List Int := trimI ((nums n m p).map fun x => x / (G (mm m (lng p - 1)) (nums n m p) : Int))
def col (p : List (List Int)) (k : Nat) : List Int := trimI (p.map fun r => r.getD k 0)
def exch (p : List (List Int)) : List (List Int) := trimP ((List.range (lng p)).map (col p))
theorem okP_exch (p : List (List Int)) : okP (exch p) := okP_trim fun r hr => by
  obtain ⟨k, _, rfl⟩ := List.mem_map.mp hr
  exact okR_trim _
theorem bd_exch {n b : Nat} {p : List (List Int)} (h : Bd n b p) : Bd n b (exch p) := by
  refine ⟨Nat.le_trans (trimBy_len _ _) (by rw [List.length_map, List.length_range]; exact lng_bd fun r hr => (h.2 r hr).1), fun r hr => ?_⟩
  obtain ⟨k, _, rfl⟩ := List.mem_map.mp (trimBy_mem _ _ hr)
  refine ⟨Nat.le_trans (trimBy_len _ _) (by rw [List.length_map]; exact h.1), fun c hc => ?_⟩
  obtain ⟨r, hr, rfl⟩ := List.mem_map.mp (trimBy_mem _ _ hc)
  rw [List.getD_eq_getElem?_getD]
  cases e : r[k]? with
  | none => simp
  | some x => exact (h.2 r hr).2 x (List.mem_of_getElem? e)
theorem G_append : ∀ (M : Nat) (l : List Int) (x : Int), G M (l ++ [x]) = Nat.gcd (G M l) x.natAbs
  | M, [], x => rfl
  | M, y :: l, x => by
    show G _ (l ++ [x]) = Nat.gcd (G _ l) x.natAbs
    exact G_append _ l x
theorem G_dvd : ∀ (l : List Int) (M : Nat), G M l ∣ M
  | [], M => Nat.dvd_refl _
  | x :: l, M => Nat.dvd_trans (G_dvd l _) (Nat.gcd_dvd_left _ _)
theorem G_mem {y : Int} : ∀ (l : List Int) (M : Nat), y ∈ l → G M l ∣ y.natAbs
  | x :: l, M, h => by
    rcases List.mem_cons.mp h with rfl | h
    · exact Nat.dvd_trans (G_dvd l _) (Nat.gcd_dvd_right _ _)
    · exact G_mem l _ h
theorem G_gcd : ∀ (l : List Int) (a M : Nat), Nat.gcd (G a l) M = G (Nat.gcd a M) l
  | [], a, M => rfl
  | x :: l, a, M => by
    show Nat.gcd (G (Nat.gcd a x.natAbs) l) M = G (Nat.gcd (Nat.gcd a M) x.natAbs) l
    rw [G_gcd l, Nat.gcd_assoc, Nat.gcd_comm x.natAbs M, ← Nat.gcd_assoc]
theorem G_one (l : List Int) : G 1 l = 1 := Nat.eq_one_of_dvd_one (G_dvd l 1)
/-- the program's share -/
theorem G_zero (l : List Int) (M : Nat) : Nat.gcd (G 0 l) M = G M l := by rw [G_gcd, Nat.gcd_zero_left]
/-- a over b is N over D, b positive, nothing shared -/
def Lo (a b N D : Int) : Prop := 0 < b ∧ Nat.gcd a.natAbs b.natAbs = 1 ∧ a * D = N * b
theorem lo_share {a b N D : Int} (h : Lo a b N D) (d : 0 < D) : b * (Nat.gcd N.natAbs D.natAbs : Int) = D ∧ a * (Nat.gcd N.natAbs D.natAbs : Int) = N := by
  obtain ⟨b0, c, e⟩ := h
  have dv : b ∣ D := by
    have h1 : b.natAbs ∣ a.natAbs * D.natAbs := by
      rw [← Int.natAbs_mul, e, Int.natAbs_mul]
      exact Nat.dvd_mul_left _ _
    have h2 : b.natAbs ∣ D.natAbs := (Nat.Coprime.dvd_of_dvd_mul_left (Nat.coprime_comm.mp c) h1)
    exact Int.natAbs_dvd_natAbs.mp h2
  obtain ⟨k, rfl⟩ := dv
  have k0 : 0 < k := by
    rcases Int.lt_or_le 0 k with z | z
    · exact z
    · have := Int.mul_le_mul_of_nonneg_left z (Int.le_of_lt b0)
      rw [Int.mul_zero] at this
      omega
  have eN : N = a * k := by
    have h3 : (a * k) * b = N * b := by rw [← e, Int.mul_assoc, Int.mul_comm k b]
    exact (Int.eq_of_mul_eq_mul_right (by omega) h3).symm
  subst eN
  have g : (Nat.gcd (a * k).natAbs (b * k).natAbs : Int) = k := by
    rw [Int.natAbs_mul, Int.natAbs_mul, Nat.gcd_mul_right, c, Nat.one_mul]
    omega
  rw [g]
  exact ⟨rfl, rfl⟩
/-- the least common multiple's step -/
theorem lcm_step {l g b h M : Nat} (m0 : 0 < M) (e1 : l * g = M) (e2 : b * h = M) : (l * b / Nat.gcd l b) * Nat.gcd g h = M := by
  have hl : l ∣ M := ⟨g, e1.symm⟩
  have l0 : 0 < l := Nat.pos_of_dvd_of_pos hl m0
  have d0 : 0 < Nat.gcd l b := Nat.gcd_pos_of_pos_left _ l0
  have q : (l * b / Nat.gcd l b) * Nat.gcd l b = l * b := Nat.div_mul_cancel (Nat.dvd_trans (Nat.gcd_dvd_left l b) (Nat.dvd_mul_right _ _))
  have k : Nat.gcd g h * (l * b) = M * Nat.gcd l b := by
    rw [← Nat.gcd_mul_right]
    have a1 : g * (l * b) = M * b := by rw [← e1, ← Nat.mul_assoc, Nat.mul_comm g l]
    have a2 : h * (l * b) = M * l := by rw [← e2, Nat.mul_comm l b, ← Nat.mul_assoc, Nat.mul_comm h b]
    rw [a1, a2, Nat.gcd_mul_left, Nat.gcd_comm b l]
  refine Nat.eq_of_mul_eq_mul_right d0 ?_
  rw [Nat.mul_assoc, Nat.mul_comm (Nat.gcd g h), ← Nat.mul_assoc, q, Nat.mul_comm (l * b), k]
theorem pow_pos' {m : Int} (h : 0 < m) : ∀ k : Nat, 0 < m ^ k
  | 0 => by simp
  | k + 1 => by rw [Int.pow_succ]; exact Int.mul_pos (pow_pos' h k) h
theorem mm_eq {m : Int} (h : 0 < m) (k : Nat) : ((mm m k : Nat) : Int) = m ^ k := by
  unfold mm
  rw [Int.natCast_pow, Int.natAbs_of_nonneg (Int.le_of_lt h)]
/-- a row's worth, over the common base -/
theorem lo_at {n m a b : Int} {r : List Int} {L : Nat} (m0 : 0 < m) (hl : r.length ≤ L) (h : Lo a b (T n m r * m) (m ^ r.length)) : Lo a b (numAt n m L r) (m ^ (L - 1)) := by
  refine ⟨h.1, h.2.1, ?_⟩
  have e := h.2.2
  unfold numAt
  cases hr : r with
  | nil =>
    subst hr
    have : a = 0 := by simpa [T] using e
    simp [T, this]
  | cons c s =>
    rw [← hr]
    have l1 : r.length = s.length + 1 := by rw [hr]; rfl
    have e2 : a * m ^ s.length = T n m r * b := by
      rw [l1, Int.pow_succ] at e
      refine Int.eq_of_mul_eq_mul_right (a := m) (by omega) ?_
      rw [Int.mul_assoc, e, Int.mul_assoc, Int.mul_comm m b, Int.mul_assoc]
    have e3 : L - 1 = s.length + (L - r.length) := by omega
    rw [e3, Int.pow_add, ← Int.mul_assoc, e2, Int.mul_assoc, Int.mul_comm b, ← Int.mul_assoc]
/-! sizes -/
theorem T_le {n m : Int} {B : Nat} (hn : n.natAbs ≤ 12) (m0 : m.natAbs ≤ 7) : ∀ r : List Int, (∀ c ∈ r, c.natAbs ≤ B) → (T n m r).natAbs ≤ B * 20 ^ r.length
  | [], _ => by simp [T]
  | c :: r, h => by
    have ih := T_le hn m0 r fun d hd => h d (by simp [hd])
    have hc := h c (by simp)
    rw [T]
    refine Nat.le_trans (Int.natAbs_add_le _ _) ?_
    rw [Int.natAbs_mul, Int.natAbs_mul, Int.natAbs_pow, List.length_cons, Nat.pow_succ]
    have a1 : (T n m r).natAbs * n.natAbs ≤ B * 20 ^ r.length * 12 := Nat.mul_le_mul ih hn
    have a2 : c.natAbs * m.natAbs ^ r.length ≤ B * 20 ^ r.length := Nat.mul_le_mul hc (Nat.le_trans (Nat.pow_le_pow_left m0 _) (Nat.pow_le_pow_left (by omega) _))
    have a3 : B * (20 ^ r.length * 20) = B * 20 ^ r.length * 20 := by rw [Nat.mul_assoc]
    omega
theorem num_le {n m : Int} {B L : Nat} (hn : n.natAbs ≤ 12) (m0 : m.natAbs ≤ 7) (hL : L ≤ 10) {r : List Int} (hr : r.length ≤ 10) (h : ∀ c ∈ r, c.natAbs ≤ B) : (numAt n m L r).natAbs ≤ B * 20 ^ 10 * 7 ^ 10 := by
  unfold numAt
  rw [Int.natAbs_mul, Int.natAbs_pow]
  refine Nat.mul_le_mul (Nat.le_trans (T_le hn m0 r h) (Nat.mul_le_mul_left _ (Nat.pow_le_pow_right (by omega) hr))) ?_
  exact Nat.le_trans (Nat.pow_le_pow_left m0 _) (Nat.pow_le_pow_right (by omega) (by omega))
theorem lo_lean {top low : Int} (h : 0 < low) : Lo (top / (Nat.gcd top.natAbs low.natAbs : Int)) (low / (Nat.gcd top.natAbs low.natAbs : Int)) top low := by
  have g0 : 0 < Nat.gcd top.natAbs low.natAbs := Nat.gcd_pos_of_pos_right _ (by omega)
  generalize hg : Nat.gcd top.natAbs low.natAbs = g at g0
  have d1 : (g : Int) ∣ top := Int.natAbs_dvd_natAbs.mp (by rw [← hg]; exact Nat.gcd_dvd_left _ _)
  have d2 : (g : Int) ∣ low := Int.natAbs_dvd_natAbs.mp (by rw [← hg]; exact Nat.gcd_dvd_right _ _)
  obtain ⟨x, rfl⟩ := d1
  obtain ⟨y, rfl⟩ := d2
  have gn : (g : Int) ≠ 0 := by omega
  rw [Int.mul_ediv_cancel_left _ gn, Int.mul_ediv_cancel_left _ gn]
  refine ⟨?_, ?_, by grind⟩
  · rcases Int.lt_or_le 0 y with z | z
    · exact z
    · have := Int.mul_le_mul_of_nonneg_left z (show (0 : Int) ≤ g by omega)
      rw [Int.mul_zero] at this
      omega
  · rw [Int.natAbs_mul, Int.natAbs_mul, Nat.gcd_mul_left, Int.natAbs_natCast] at hg
    have h1 : g * Nat.gcd x.natAbs y.natAbs = g * 1 := by rw [hg, Nat.mul_one]
    exact Nat.eq_of_mul_eq_mul_left g0 h1
theorem lo_mul {a b N D n m x y : Int} (h : Lo a b N D) (g : Lo x y (a * n) (b * m)) : Lo x y (N * n) (D * m) := by
  refine ⟨g.1, g.2.1, ?_⟩
  have b0 := h.1
  have h1 := h.2.2
  have h2 := g.2.2
  have : (x * (D * m)) * b = (N * n * y) * b := by grind
  exact Int.eq_of_mul_eq_mul_right (by omega) this
theorem lo_add {a b N D c x y : Int} (h : Lo a b N D) (g : Lo x y (a * 1 + c * b) (b * 1)) : Lo x y (N + c * D) D := by
  refine ⟨g.1, g.2.1, ?_⟩
  have b0 := h.1
  have h1 := h.2.2
  have h2 := g.2.2
  have : (x * D) * b = ((N + c * D) * y) * b := by grind
  exact Int.eq_of_mul_eq_mul_right (by omega) this
theorem lo_le {a b N D : Int} (h : Lo a b N D) (d : 0 < D) : b ≤ D := by
  have := (lo_share h d).1
  have g0 : 0 < Nat.gcd N.natAbs D.natAbs := Nat.gcd_pos_of_pos_right _ (by omega)
  have b0 := h.1
  have := Int.mul_le_mul_of_nonneg_left (show (1 : Int) ≤ (Nat.gcd N.natAbs D.natAbs : Int) by omega) (show 0 ≤ b by omega)
  omega
theorem pow_le7 {m : Int} (m0 : 0 < m) (m1 : m ≤ 7) (k : Nat) : m ^ k ≤ 7 ^ k := by
  induction k with
  | zero => simp
  | succ k ih =>
    rw [Int.pow_succ, Int.pow_succ]
    exact Int.mul_le_mul ih m1 (by omega) (Int.le_of_lt (pow_pos' (by omega) k))
theorem pow_mono7 {k j : Nat} (h : k ≤ j) : (7 : Int) ^ k ≤ 7 ^ j := by
  have := Nat.pow_le_pow_right (n := 7) (by omega) h
  exact_mod_cast this
theorem max_lng {p : List (List Int)} {k : Int} (h1 : k ∈ (0 : Int) :: p.map (fun r => (r.length : Int))) (h2 : ∀ y ∈ (0 : Int) :: p.map (fun r => (r.length : Int)), y ≤ k) : k = (lng p : Int) := by
  have up : (lng p : Int) ≤ k := by
    clear h1
    induction p with
    | nil => exact h2 0 (by simp)
    | cons r p ih =>
      have a := ih fun y hy => h2 y (by
        rcases List.mem_cons.mp hy with hy | hy
        · simp [hy]
        · rw [List.map_cons]; exact List.mem_cons_of_mem _ (List.mem_cons_of_mem _ hy))
      have b := h2 r.length (by simp)
      rw [lng]
      omega
  rcases List.mem_cons.mp h1 with h | h
  · omega
  · obtain ⟨r, hr, rfl⟩ := List.mem_map.mp h
    have := lng_le hr
    omega
/-- the loop's step -/
theorem low_step {l Gn M : Nat} {a b N : Int} (m0 : 0 < M) (e : l * Gn = M) (h : Lo a b N (M : Int)) : (l * b.natAbs / Nat.gcd l b.natAbs) * Nat.gcd Gn N.natAbs = M := by
  have sh := (lo_share h (by omega)).1
  have e2 : b.natAbs * Nat.gcd N.natAbs M = M := by
    have := congrArg Int.natAbs sh
    rw [Int.natAbs_mul, Int.natAbs_natCast, Int.natAbs_natCast] at this
    exact this
  have := lcm_step m0 e e2
  have d : Gn ∣ M := ⟨l, by rw [← e, Nat.mul_comm]⟩
  have g : Nat.gcd Gn (Nat.gcd N.natAbs M) = Nat.gcd Gn N.natAbs := by
    rw [Nat.gcd_comm N.natAbs M, ← Nat.gcd_assoc, Nat.gcd_eq_left d]
  rw [g] at this
  exact this
theorem low_end {l Gn M : Nat} {a b N : Int} (m0 : 0 < M) (e : l * Gn = M) (d : Gn ∣ N.natAbs) (h : Lo a b N (M : Int)) : a * ((l : Int) / b) = N / (Gn : Int) := by
  obtain ⟨s1, s2⟩ := lo_share h (by omega)
  have g1 : Gn ∣ M := ⟨l, by rw [← e, Nat.mul_comm]⟩
  have g0 : 0 < Gn := Nat.pos_of_dvd_of_pos g1 m0
  have g2 : Gn ∣ Nat.gcd N.natAbs M := Nat.dvd_gcd d g1
  rw [Int.natAbs_natCast] at s1 s2
  obtain ⟨k, hk⟩ := g2
  rw [hk] at s1 s2
  have b0 := h.1
  have gi : (Gn : Int) ≠ 0 := by omega
  have el : (l : Int) = b * k := by
    have : (l : Int) * Gn = (b * k) * Gn := by
      rw [show (l : Int) * Gn = ((l * Gn : Nat) : Int) from by simp, e, ← s1]
      rw [Int.natCast_mul]
      grind
    exact Int.eq_of_mul_eq_mul_right gi this
  rw [el, Int.mul_ediv_cancel_left _ (by omega), ← s2, Int.natCast_mul]
  rw [show a * ((Gn : Int) * (k : Int)) = (Gn : Int) * (a * k) from by grind, Int.mul_ediv_cancel_left _ gi]
theorem mm_pos {m : Int} (h : 0 < m) (k : Nat) : 0 < mm m k := Nat.pow_pos (by omega)
theorem mm_le {m : Int} (h : m.natAbs ≤ 7) {k : Nat} (hk : k ≤ 7) : mm m k ≤ 823543 := by
  have : mm m k ≤ 7 ^ 7 := Nat.le_trans (Nat.pow_le_pow_left h k) (Nat.pow_le_pow_right (by omega) hk)
  exact this
theorem G_take {n m : Int} {p : List (List Int)} {M i : Nat} {r : List Int} (h : p[i]? = some r) : G M ((nums n m p).take (i + 1)) = Nat.gcd (G M ((nums n m p).take i)) (numAt n m (lng p) r).natAbs := by
  have e : (nums n m p)[i]? = some (numAt n m (lng p) r) := by unfold nums; rw [List.getElem?_map, h]; rfl
  rw [List.take_add_one, e]
  exact G_append _ _ _
theorem G_split : ∀ (l k : List Int) (M : Nat), G M (l ++ k) = G (G M l) k
  | [], k, M => rfl
  | x :: l, k, M => G_split l k _
theorem G_early {l : List Int} {i : Nat} (h : G 0 (l.take i) = 1) : G 0 l = 1 := by
  have e : l = l.take i ++ l.drop i := (List.take_append_drop i l).symm
  rw [e, G_split, h]
  exact G_one _
theorem max_fold : ∀ (p : List (List Int)) (a : Int), 0 ≤ a → (p.map fun r => ((r.length : Nat) : Int)).foldl max a = max a (lng p : Int)
  | [], a, h => by
    show a = max a (((0 : Nat)) : Int)
    omega
  | r :: p, a, h => by
    rw [List.map_cons, List.foldl_cons, max_fold p _ (by omega), lng]
    omega
/-! rows and polys by their numbers -/
abbrev g (r : List Int) (k : Nat) : Int := r.getD k 0
def rw' (p : List (List Int)) (i : Nat) : List Int := p.getD i []
def co (p : List (List Int)) (i j : Nat) : Int := g (rw' p i) j
theorem g_none {r : List Int} {k : Nat} (h : r.length ≤ k) : g r k = 0 := by
  unfold g
  rw [List.getD_eq_getElem?_getD, List.getElem?_eq_none h]
  rfl
theorem g_some {r : List Int} {k : Nat} (h : k < r.length) : g r k = r[k] := by
  unfold g
  rw [List.getD_eq_getElem?_getD, List.getElem?_eq_getElem h]
  rfl
theorem rw_none {p : List (List Int)} {k : Nat} (h : p.length ≤ k) : rw' p k = [] := by
  unfold rw'
  rw [List.getD_eq_getElem?_getD, List.getElem?_eq_none h]
  rfl
theorem rw_some {p : List (List Int)} {k : Nat} (h : k < p.length) : rw' p k = p[k] := by
  unfold rw'
  rw [List.getD_eq_getElem?_getD, List.getElem?_eq_getElem h]
  rfl
theorem getD_trim {α : Type} (z : α → Bool) (d : α) (hz : ∀ a, z a = true → a = d) : ∀ (l : List α) (k : Nat), (trimBy z l).getD k d = l.getD k d
  | [], k => rfl
  | a :: l, k => by
    have ih := getD_trim z d hz l
    rw [trimBy]
    cases e : trimBy z l with
    | nil =>
      rw [e] at ih
      by_cases c : z a = true
      · rw [if_pos c]
        cases k with
        | zero => simp [hz a c]
        | succ k => simpa using ih k
      · rw [if_neg c]
        cases k with
        | zero => simp
        | succ k => simpa using ih k
    | cons b r =>
      rw [e] at ih
      cases k with
      | zero => simp
      | succ k => simpa using ih k
theorem g_trim (l : List Int) (k : Nat) : g (trimI l) k = g l k := getD_trim _ _ (fun a h => by simpa using h) l k
theorem rw_trim (p : List (List Int)) (k : Nat) : rw' (trimP p) k = rw' p k := getD_trim _ _ (fun a h => by simpa using h) p k
theorem getD_take {α : Type} (d : α) (l : List α) (n k : Nat) (h : ∀ i, n ≤ i → l.getD i d = d) : (l.take n).getD k d = l.getD k d := by
  rw [List.getD_eq_getElem?_getD, List.getElem?_take]
  split
  · rw [List.getD_eq_getElem?_getD]
  · rw [h k (by omega)]
    rfl
/-- a row is known by its numbers -/
theorem row_ext {r s : List Int} (hr : okR r) (hs : okR s) (h : ∀ k, g r k = g s k) : r = s := by
  have half : ∀ {r s : List Int}, okR s → (∀ k, g r k = g s k) → s.length ≤ r.length := fun {r s} hs h => by
    rcases Nat.lt_or_ge r.length s.length with c | c
    · exfalso
      have e : s.getLast? = some s[s.length - 1] := by rw [List.getLast?_eq_getElem?, List.getElem?_eq_getElem (by omega)]
      refine hs _ e ?_
      rw [← g_some (by omega), ← h, g_none (by omega)]
    · exact c
  have l : r.length = s.length := Nat.le_antisymm (half hr fun k => (h k).symm) (half hs h)
  refine List.ext_getElem l fun k h1 h2 => ?_
  rw [← g_some h1, ← g_some h2, h]
theorem okR_nil : okR [] := fun c h => by simp at h
theorem okR_rw {p : List (List Int)} (h : ∀ r ∈ p, okR r) (i : Nat) : okR (rw' p i) := by
  rcases Nat.lt_or_ge i p.length with c | c
  · rw [rw_some c]; exact h _ (List.getElem_mem _)
  · rw [rw_none c]; exact okR_nil
theorem poly_ext {p q : List (List Int)} (hp : okP p) (hq : okP q) (h : ∀ i j, co p i j = co q i j) : p = q := by
  have e : ∀ i, rw' p i = rw' q i := fun i => row_ext (okR_rw hp.1 i) (okR_rw hq.1 i) (h i)
  have half : ∀ {p q : List (List Int)}, okP q → (∀ i, rw' p i = rw' q i) → q.length ≤ p.length := fun {p q} hq h => by
    rcases Nat.lt_or_ge p.length q.length with c | c
    · exfalso
      have e : q.getLast? = some q[q.length - 1] := by rw [List.getLast?_eq_getElem?, List.getElem?_eq_getElem (by omega)]
      refine hq.2 _ e ?_
      rw [← rw_some (by omega), ← h, rw_none (by omega)]
    · exact c
  have l : p.length = q.length := Nat.le_antisymm (half hp fun k => (e k).symm) (half hq e)
  refine List.ext_getElem l fun k h1 h2 => ?_
  rw [← rw_some h1, ← rw_some h2, e]
/-! sums -/
def S : Nat → (Nat → Int) → Int
  | 0, _ => 0
  | n + 1, f => S n f + f n
theorem S_ext {f h : Nat → Int} : ∀ n, (∀ i, i < n → f i = h i) → S n f = S n h
  | 0, _ => rfl
  | n + 1, e => by rw [S, S, S_ext n fun i hi => e i (by omega), e n (by omega)]
theorem S_zero : ∀ n, S n (fun _ => 0) = 0
  | 0 => rfl
  | n + 1 => by rw [S, S_zero n]; rfl
theorem S_more {f : Nat → Int} {n m : Nat} (h : n ≤ m) (z : ∀ i, n ≤ i → f i = 0) : S m f = S n f := by
  induction m with
  | zero => have : n = 0 := by omega
            subst this; rfl
  | succ m ih =>
    rcases Nat.lt_or_ge m n with c | c
    · have : n = m + 1 := by omega
      subst this; rfl
    · rw [S, ih c, z m c, Int.add_zero]
theorem S_add {f h : Nat → Int} : ∀ n, S n (fun i => f i + h i) = S n f + S n h
  | 0 => rfl
  | n + 1 => by rw [S, S, S, S_add n]; omega
theorem S_mul {f : Nat → Int} (c : Int) : ∀ n, S n (fun i => c * f i) = c * S n f
  | 0 => by simp [S]
  | n + 1 => by rw [S, S, S_mul c n, Int.mul_add]
theorem S_shift {f : Nat → Int} : ∀ n, S (n + 1) f = f 0 + S n (fun i => f (i + 1))
  | 0 => by simp [S]
  | n + 1 => by
    rw [S, S_shift n, S]
    omega
theorem S_rev {f : Nat → Int} : ∀ n, S (n + 1) f = S (n + 1) (fun i => f (n - i))
  | 0 => rfl
  | n + 1 => by
    rw [S, S_rev n, S_shift (f := fun i => f (n + 1 - i))]
    have : S (n + 1) (fun i => f (n + 1 - (i + 1))) = S (n + 1) (fun i => f (n - i)) := S_ext _ fun i _ => by rw [Nat.add_sub_add_right]
    rw [this]
    show _ + f (n + 1) = f (n + 1 - 0) + _
    rw [Nat.sub_zero]
    omega
theorem S_comm {f : Nat → Nat → Int} (m : Nat) : ∀ n, S n (fun i => S m (fun j => f i j)) = S m (fun j => S n (fun i => f i j))
  | 0 => by simp only [S]; exact (S_zero m).symm
  | n + 1 => by
    rw [S, S_comm m n, ← S_add]
    rfl
/-- what two rows of numbers make, multiplied -/
def cv (f h : Nat → Int) (k : Nat) : Int := S (k + 1) fun i => f i * h (k - i)
theorem cv_comm (f h : Nat → Int) (k : Nat) : cv f h k = cv h f k := by
  unfold cv
  rw [S_rev]
  refine S_ext _ fun i hi => ?_
  rw [Nat.sub_sub_self (by omega), Int.mul_comm]
/-- the loops' sum -/
theorem cv_loop {f h : Nat → Int} {n : Nat} (z : ∀ i, n ≤ i → f i = 0) (k : Nat) : S n (fun a => if a ≤ k then f a * h (k - a) else 0) = cv f h k := by
  have e1 : S (max n (k + 1)) (fun a => if a ≤ k then f a * h (k - a) else 0) = S n (fun a => if a ≤ k then f a * h (k - a) else 0) := S_more (by omega) fun i hi => by
    rw [z i hi, Int.zero_mul]
    split <;> rfl
  have e2 : S (max n (k + 1)) (fun a => if a ≤ k then f a * h (k - a) else 0) = S (k + 1) (fun a => if a ≤ k then f a * h (k - a) else 0) := S_more (by omega) fun i hi => by
    rw [if_neg (by omega)]
  rw [← e1, e2]
  unfold cv
  exact S_ext _ fun i hi => by rw [if_pos (by omega)]
theorem cv_zero {h : Nat → Int} {f : Nat → Int} (z : ∀ i, f i = 0) (k : Nat) : cv f h k = 0 := by
  unfold cv
  rw [S_ext (h := fun _ => 0) _ fun i _ => by rw [z i, Int.zero_mul], S_zero]
theorem g_set {l : List Int} {n : Nat} {c : Int} (h : n < l.length) (k : Nat) : g (l.set n c) k = if k = n then c else g l k := by
  unfold g
  rw [List.getD_eq_getElem?_getD, List.getD_eq_getElem?_getD, List.getElem?_set]
  by_cases e : n = k
  · subst e
    rw [if_pos rfl, if_pos h, if_pos rfl]
    rfl
  · rw [if_neg e, if_neg (fun z => e z.symm)]
theorem rw_set {l : List (List Int)} {n : Nat} {c : List Int} (h : n < l.length) (k : Nat) : rw' (l.set n c) k = if k = n then c else rw' l k := by
  unfold rw'
  rw [List.getD_eq_getElem?_getD, List.getD_eq_getElem?_getD, List.getElem?_set]
  by_cases e : n = k
  · subst e
    rw [if_pos rfl, if_pos h, if_pos rfl]
    rfl
  · rw [if_neg e, if_neg (fun z => e z.symm)]
/-! lowest terms -/
theorem lo_scale {a b N D N' D' : Int} (h : Lo a b N D) (d : D ≠ 0) (e : N * D' = N' * D) : Lo a b N' D' := by
  obtain ⟨h1, h2, h3⟩ := h
  refine ⟨h1, h2, Int.eq_of_mul_eq_mul_right d ?_⟩
  have : a * D * D' = N * D' * b := by rw [h3]; grind
  rw [e] at this
  grind
theorem lo_sum {a b c d N M D x y : Int} (h1 : Lo a b N D) (h2 : Lo c d M D) (d0 : D ≠ 0) (h : Lo x y (a * d + c * b) (b * d)) : Lo x y (N + M) D := by
  obtain ⟨b0, _, e1⟩ := h1
  obtain ⟨c0, _, e2⟩ := h2
  refine lo_scale h (Int.ne_of_gt (Int.mul_pos b0 c0)) ?_
  have : (a * d + c * b) * D = a * D * d + c * D * b := by grind
  rw [this, e1, e2]
  grind
theorem lo_prod {a b c d N M D E x y : Int} (h1 : Lo a b N D) (h2 : Lo c d M E) (h : Lo x y (a * c) (b * d)) : Lo x y (N * M) (D * E) := by
  obtain ⟨b0, _, e1⟩ := h1
  obtain ⟨c0, _, e2⟩ := h2
  refine lo_scale h (Int.ne_of_gt (Int.mul_pos b0 c0)) ?_
  have : a * c * (D * E) = (a * D) * (c * E) := by grind
  rw [this, e1, e2]
  grind
theorem lo_uniq {a b c d N D : Int} (h1 : Lo a b N D) (h2 : Lo c d N D) (d0 : 0 < D) : a = c ∧ b = d := by
  have s1 := lo_share h1 d0
  have s2 := lo_share h2 d0
  have g0 : (Nat.gcd N.natAbs D.natAbs : Int) ≠ 0 := by
    have : 0 < Nat.gcd N.natAbs D.natAbs := Nat.gcd_pos_of_pos_right _ (by omega)
    omega
  exact ⟨Int.eq_of_mul_eq_mul_right g0 (by rw [s1.2, s2.2]), Int.eq_of_mul_eq_mul_right g0 (by rw [s1.1, s2.1])⟩
theorem lo_num {a b N D : Int} (h : Lo a b N D) (d0 : 0 < D) : a.natAbs ≤ N.natAbs := by
  have s := lo_share h d0
  have g0 : 0 < Nat.gcd N.natAbs D.natAbs := Nat.gcd_pos_of_pos_right _ (by omega)
  have e := congrArg Int.natAbs s.2
  rw [Int.natAbs_mul, Int.natAbs_natCast] at e
  rw [← e]
  exact Nat.le_mul_of_pos_right _ g0
end K02

set_option Elab.async false
set_option linter.all false
set_option maxRecDepth 100000
set_option maxHeartbeats 4000000
local macro_rules | `(tactic| walk_at "rd") => `(tactic| dsimp only [L2.tSeq, L2.tNext, L2.tRet, L2.tRetN, L2.tAsg, L2.gName, L2.tIfS, L2.tDrop, L2.tCons, L2.tNil, L2.tC, L2.tVar, L2.tCB, L2.tAndV, L2.tOrV, L2.tNotV, L2.tB, L2.tTest, L2.tOp, L2.tUn, L2.tNot, L2.tAnd, L2.tOr, L2.tIf, L2.tCall, L2.tTup, L2.tLst, L2.tNotT, L2.tYes])
namespace K02
open PySem PySem.Spec PyProof.Rows L2 Tw
def top (i : Nat) : Stmt := PySem.Challenge.pw_twoletters_k02_rows_of_anything_and_thei.main.body.getD i (.Pass ⟨0, 0, 0, 0⟩)
abbrev sWhole : Stmt := top 6
abbrev sIsFr : Stmt := top 7
abbrev sFracOf : Stmt := top 8
abbrev sPower : Stmt := top 9
abbrev sShared : Stmt := top 10
abbrev sTrimmed : Stmt := top 13
abbrev sPRSum : Stmt := top 14
abbrev sPRScaled : Stmt := top 15
abbrev sDivided : Stmt := top 16
abbrev sPLess : Stmt := top 17
abbrev sPRTimes : Stmt := top 21
abbrev sPDeriv : Stmt := top 22
abbrev sPPrime : Stmt := top 23
abbrev sScaled : Stmt := top 24
abbrev sRValue : Stmt := top 25
abbrev sPPut : Stmt := top 26
abbrev sRow : Stmt := top 28
abbrev sChkR : Stmt := top 29
abbrev sChkBoth : Stmt := top 30
abbrev sApPlus : Stmt := top 31
abbrev sApLess : Stmt := top 32
abbrev sApTimes : Stmt := top 33
abbrev sApDer : Stmt := top 34
abbrev sApVal : Stmt := top 35
abbrev sApPrime : Stmt := top 36
abbrev sApPut : Stmt := top 37
abbrev sWell : Stmt := top 39
abbrev sDraw : Stmt := top 40
abbrev sPick : Stmt := top 41
abbrev sCommon : Stmt := top 42
abbrev sLean : Stmt := top 43
abbrev sSmall : Stmt := top 44
abbrev sPart : Stmt := top 45
abbrev sTrim : Stmt := top 46
abbrev sLine : Stmt := top 47
abbrev sSum : Stmt := top 48
abbrev sLScaled : Stmt := top 49
abbrev sProd : Stmt := top 50
abbrev sSlope : Stmt := top 51
abbrev sValue : Stmt := top 52
abbrev sWorth : Stmt := top 53
abbrev sThin : Stmt := top 54
abbrev sPrime : Stmt := top 55
abbrev sLWhole : Stmt := top 56
abbrev sLRow : Stmt := top 57
abbrev sOdd : Stmt := top 58
abbrev sBent : Stmt := top 59
abbrev sTurned : Stmt := top 60
abbrev sPutIn : Stmt := top 61
abbrev sRight : Stmt := top 62
abbrev sLaw : Stmt := top 63
/-- built-in names that the text gives no other meaning -/
structure Nb (mg : Str → Option Value) : Prop where
  isi : mg "isinstance" = none
  int : mg "int" = none
  bool : mg "bool" = none
  tup : mg "tuple" = none
  all : mg "all" = none
  len : mg "len" = none
  lst : mg "list" = none
  dvm : mg "divmod" = none
  rng : mg "range" = none
  max : mg "max" = none
  min : mg "min" = none
  abs : mg "abs" = none
  repr : mg "repr" = none
  rev : mg "reversed" = none
  gc : mg "gcd" = some (.builtin "math.gcd")

/-! ### what the answers are -/
def wholeB (d : PyData) : Bool := isIntD d && !isBoolD d
def lastD (ds : List PyData) (d : PyData) : Bool := match ds.getLast? with
  | some e => !(PyData.eqv e d)
  | none => true
def rowB : PyData → Bool
  | .tuple ds => (ds.map wholeB).all id && lastD ds (.int 0)
  | _ => false
def polyB : PyData → Bool
  | .tuple ds => (ds.map rowB).all id && lastD ds (.tuple [])
  | _ => false
/-- the answer is f of the datum -/
def spB (f : PyData → Bool) : Sp := fun vs H Q _ => ∃ a v d m, vs = [v] ∧ Da a H v d ∧ Sm m 1000 d ∧ ∀ H', Same H H' → Q (.bl (f d)) H'

theorem getLast_get {α : Type} {xs : List α} {x : α} (h : xs.getLast? = some x) : xs[xs.length - 1]? = some x := by
  rw [← List.getLast?_eq_getElem?]; exact h
theorem atI_end {α : Type} {xs : List α} {x : α} (h : xs.getLast? = some x) : atI xs (-1) = some x := by
  obtain ⟨ys, rfl⟩ := List.getLast?_eq_some_iff.mp h
  exact atI_last _ _
theorem last_both {a : Addr} {H : Hp} {xs : List V} {ds : List PyData} (h : DaAll a H xs ds) (ne : ds ≠ []) : ∃ x d, xs.getLast? = some x ∧ ds.getLast? = some d ∧ d ∈ ds ∧ Da a H x d := by
  have l := h.len
  have hp : 0 < ds.length := List.length_pos_iff.mpr ne
  have hx : xs.length - 1 < xs.length := by omega
  obtain ⟨d, e1, e2⟩ := h.get (List.getElem?_eq_getElem hx)
  refine ⟨xs[xs.length - 1], d, ?_, ?_, List.mem_of_getElem? e1, e2⟩
  · rw [List.getLast?_eq_getElem?]; exact List.getElem?_eq_getElem hx
  · rw [List.getLast?_eq_getElem?, ← l]; exact e1
section
variable {P : Program} {w : World} {K : PySem.W.Frag} {mg : Str → Option Value} {base : Heap}
theorem scWhole : FnScope ["value"] ["value"] (defScope sWhole) := ⟨rfl, rfl, rfl, by decide +kernel, rfl, by decide +kernel, by decide +kernel⟩
theorem ok_whole (D : Def K mg "is_whole" sWhole ["value"]) (nb : Nb mg) : Cal P w K mg base "is_whole" 1 ["value"] (spB wholeB) := by
  refine D.ok scWhole (fun vs H Q E h => ?_) (fun f cdv A out s H vs Q E hr h => ?_)
  · obtain ⟨a, v, d, m, rfl, _⟩ := h; rfl
  obtain ⟨a, v, d, m, rfl, hd, hs, q⟩ := h
  refine ⟨_, pss_one (ps_ret (pe_and (pe_callB (id := "isinstance") (r := rIsi K) call_isi (by rfl) nb.isi (by decide +kernel) (pa_cons (pv 0) (pa_cons (pe_bltn (v := .ty "int") (by rfl) nb.int (by decide +kernel) rfl) pa_nil)))
    (pe_one (pe_not (pe_callB (id := "isinstance") (r := rIsi K) call_isi (by rfl) nb.isi (by decide +kernel) (pa_cons (pv 0) (pa_cons (pe_bltn (v := .ty "bool") (by rfl) nb.bool (by decide +kernel) rfl) pa_nil))))))), ?_⟩
  walk_at "rd"
  refine ⟨v, rfl, isi hd (isi_int d) ⟨isIntD d, rfl, ?_⟩⟩
  have q' := q H (Same.refl H)
  unfold wholeB at q'
  cases hi : isIntD d with
  | false => rw [hi] at q'; exact iteF q'
  | true =>
    rw [hi] at q'
    refine iteT ⟨v, rfl, isi hd (isi_bool d) ⟨isBoolD d, rfl, q'⟩⟩

theorem tup_of {a : Addr} {H : Hp} {v : V} {d : PyData} (h : Da a H v d) (t : isTupD d = true) : ∃ p xs ds, v = .ref p ∧ d = .tuple ds ∧ p ≠ a ∧ H p = some (.tup xs) ∧ DaAll a H xs ds := by
  cases h with
  | tup n e r => exact ⟨_, _, _, rfl, rfl, n, e, r⟩
  | _ => exact absurd t (by simp [isTupD])
theorem int_of {a : Addr} {H : Hp} {v : V} {d : PyData} (h : Da a H v d) (t : wholeB d = true) : ∃ i, v = .int i ∧ d = .int i := by
  cases h with
  | int i => exact ⟨i, rfl, rfl⟩
  | _ => exact absurd t (by simp [wholeB, isIntD, isBoolD])
theorem not_tup {d : PyData} (h : isTupD d = false) : rowB d = false ∧ polyB d = false := by
  cases d <;> first | exact ⟨rfl, rfl⟩ | cases h
theorem row_tup {d : PyData} (h : rowB d = true) : isTupD d = true := by
  cases d <;> first | rfl | cases h
theorem all_mem {f : PyData → Bool} {ds : List PyData} {d : PyData} (h : (ds.map f).all id = true) (m : d ∈ ds) : f d = true := by
  rw [List.all_eq_true] at h
  exact h (f d) (List.mem_map_of_mem m)
theorem empty_iff {a : Addr} {H : Hp} {xs : List V} {ds : List PyData} (h : DaAll a H xs ds) : xs.isEmpty = ds.isEmpty := by
  cases h <;> rfl
theorem wipe1 (σ : L2.St) (j : Nat) (x : V) : wipe ((wipe σ [j]).set j (some x)) [j] = wipe σ [j] := by
  show ((σ.set j none).set j (some x)).set j none = σ.set j none
  rw [List.set_set, List.set_set]

theorem scRow : FnScope ["value", "number"] ["value"] (defScope sRow) := ⟨rfl, rfl, rfl, by decide +kernel, rfl, by decide +kernel, by decide +kernel⟩
theorem ok_row (D : Def K mg "is_row" sRow ["value"]) (nb : Nb mg) (c1 : Cal P w K mg base "is_whole" 1 ["value"] (spB wholeB)) : Cal P w K mg base "is_row" 2 ["value"] (spB rowB) := by
  refine D.ok scRow (fun vs H Q E h => ?_) (fun f cdv A out s H vs Q E hr h => ?_)
  · obtain ⟨a, v, d, m, rfl, _⟩ := h; rfl
  obtain ⟨a, v, d, m, rfl, hd, hs, q⟩ := h
  refine ⟨_, pss_cons (ps_if (PW.pt (pw_or (pt_not (pt_val (pe_callB (id := "isinstance") (r := rIsi K) call_isi (by rfl) nb.isi (by decide +kernel) (pa_cons (pv 0) (pa_cons (pe_bltn (v := .ty "tuple") (by rfl) nb.tup (by decide +kernel) rfl) pa_nil)))))
      (pw_or1 (pt_not (pt_val (pe_callB (cr_all rfl) (by rfl) nb.all (by decide +kernel) (pa_cons
        (pe_lc (own := [("number", 1)]) (g := gName 1) (tt := tYes) rfl scRow.nd (pi_tup (pv 0)) (blkOk_by (N := ["value", "number"]) (sc := defScope sRow) (by decide +kernel))
          (fun _ _ _ _ _ => pg_name (i := 1) scRow.nd rfl (Or.inl rfl)) (fun _ _ _ _ _ => pts_nil) (fun _ _ _ _ _ => pe_cal c1 hr (Nat.le_refl 1) (by rfl) (pa_cons (pv 1) pa_nil))) pa_nil)))))))
      (pss_one (ps_ret pe_bl)) pss_nil)
    (pss_one (ps_ret (pe_or (pe_notT (pv 0)) (pe_one (pe_cmpR op_ne (pe_ix ix_tup (pv 0) (pe_un un_neg pe_int) (fun _ _ => rfl)) pe_int (nomark _)))))), ?_⟩
  walk_at "rd"
  refine ⟨v, rfl, isi hd (isi_tup d) ⟨isTupD d, rfl, ?_⟩⟩
  cases ht : isTupD d with
  | false =>
    have q' := q H (Same.refl H)
    rw [(not_tup ht).1] at q'
    exact iteT (iteT q')
  | true =>
    obtain ⟨p, xs, ds, rfl, rfl, np, hp, hx⟩ := tup_of hd ht
    have hn : xs.length < 100000 := by rw [hx.len]; have := hs.len; omega
    refine iteF (lc_mapT (fun d => V.bl (wholeB d)) rfl hp hx hn (wipe1 _ 1) (fun x d H1 hm s1 dx R k => ?_) fun L H1 s1 nL hL => ?_)
    · exact ⟨x, rfl, a, x, d, _, rfl, dx, hs.mem hm, k⟩
    refine ⟨L, ds.map wholeB, rfl, SqL.of (by rw [List.map_map]; exact hL), _, rfl, ?_⟩
    have q' : Q (.bl ((ds.map wholeB).all id && lastD ds (.int 0))) H1 := q H1 s1
    cases hw : (ds.map wholeB).all id with
    | false => rw [hw] at q'; exact iteT q'
    | true =>
      rw [hw] at q'
      refine iteF ⟨.ref p, rfl, _, .inr (.inl ⟨xs, SqT.of (s1 _ _ hp), rfl⟩), _, rfl, ?_⟩
      rw [empty_iff hx, Bool.not_not]
      cases hds : ds with
      | nil => subst hds; exact iteT q'
      | cons d0 dr =>
        have ne : ds ≠ [] := by rw [hds]; simp
        obtain ⟨x, dl, e1, e2, e3, e4⟩ := last_both hx ne
        obtain ⟨i, rfl, rfl⟩ := int_of e4 (all_mem hw e3)
        refine iteF ⟨.ref p, rfl, 1, rfl, p, xs, -1, .int i, rfl, rfl, SqT.of (s1 _ _ hp), atI_end e1, rfl, ?_⟩
        unfold lastD at q'
        rw [e2] at q'
        rw [dec_int]
        simpa [PyData.eqv] using q'

/-- not value or value[-1] != 0, both ways of saying it: what is asked of the last number -/
theorem end_int {a p : Addr} {H : Hp} {Q : VK} {xs : List V} {ds : List PyData} (hx : DaAll a H xs ds) (hp : H p = some (.tup xs)) (ne : ds ≠ []) (hw : (ds.map wholeB).all id = true)
    (q : Q (.bl (lastD ds (.int 0))) H) : rIxT K (.ref p) (.int (-1)) H fun x H1 => rNe x (.int 0) H1 Q := by
  obtain ⟨x, dl, e1, e2, e3, e4⟩ := last_both hx ne
  obtain ⟨i, rfl, rfl⟩ := int_of e4 (all_mem hw e3)
  refine ⟨p, xs, -1, .int i, rfl, rfl, SqT.of hp, atI_end e1, rfl, ?_⟩
  unfold lastD at q
  rw [e2] at q
  rw [dec_int]
  simpa [PyData.eqv] using q

theorem scLWhole : FnScope ["_law_thing"] ["_law_thing"] (defScope sLWhole) := ⟨rfl, rfl, rfl, by decide +kernel, rfl, by decide +kernel, by decide +kernel⟩
theorem ok_lwhole (D : Def K mg "_law_is_whole" sLWhole ["_law_thing"]) (nb : Nb mg) : Cal P w K mg base "_law_is_whole" 1 ["_law_thing"] (spB wholeB) := by
  refine D.ok scLWhole (fun vs H Q E h => ?_) (fun f cdv A out s H vs Q E hr h => ?_)
  · obtain ⟨a, v, d, m, rfl, _⟩ := h; rfl
  obtain ⟨a, v, d, m, rfl, hd, hs, q⟩ := h
  refine ⟨_, pss_one (ps_ret (pe_and (pe_callB (id := "isinstance") (r := rIsi K) call_isi (by rfl) nb.isi (by decide +kernel) (pa_cons (pv 0) (pa_cons (pe_bltn (v := .ty "int") (by rfl) nb.int (by decide +kernel) rfl) pa_nil)))
    (pe_one (pe_not (pe_callB (id := "isinstance") (r := rIsi K) call_isi (by rfl) nb.isi (by decide +kernel) (pa_cons (pv 0) (pa_cons (pe_bltn (v := .ty "bool") (by rfl) nb.bool (by decide +kernel) rfl) pa_nil))))))), ?_⟩
  walk_at "rd"
  refine ⟨v, rfl, isi hd (isi_int d) ⟨isIntD d, rfl, ?_⟩⟩
  have q' := q H (Same.refl H)
  unfold wholeB at q'
  cases hi : isIntD d with
  | false => rw [hi] at q'; exact iteF q'
  | true =>
    rw [hi] at q'
    refine iteT ⟨v, rfl, isi hd (isi_bool d) ⟨isBoolD d, rfl, q'⟩⟩

theorem scLRow : FnScope ["_law_thing", "_law_each"] ["_law_thing"] (defScope sLRow) := ⟨rfl, rfl, rfl, by decide +kernel, rfl, by decide +kernel, by decide +kernel⟩
theorem ok_isRow (D : Def K mg "_law_is_row" sLRow ["_law_thing"]) (nb : Nb mg) (c1 : Cal P w K mg base "_law_is_whole" 1 ["_law_thing"] (spB wholeB)) : Cal P w K mg base "_law_is_row" 2 ["_law_thing"] (spB rowB) := by
  refine D.ok scLRow (fun vs H Q E h => ?_) (fun f cdv A out s H vs Q E hr h => ?_)
  · obtain ⟨a, v, d, m, rfl, _⟩ := h; rfl
  obtain ⟨a, v, d, m, rfl, hd, hs, q⟩ := h
  refine ⟨_, pss_cons (ps_if (PW.pt (pw_or (pt_not (pt_val (pe_callB (id := "isinstance") (r := rIsi K) call_isi (by rfl) nb.isi (by decide +kernel) (pa_cons (pv 0) (pa_cons (pe_bltn (v := .ty "tuple") (by rfl) nb.tup (by decide +kernel) rfl) pa_nil)))))
      (pw_or1 (pt_not (pt_val (pe_callB (cr_all rfl) (by rfl) nb.all (by decide +kernel) (pa_cons
        (pe_lc (own := [("_law_each", 1)]) (g := gName 1) (tt := tYes) rfl scLRow.nd (pi_tup (pv 0)) (blkOk_by (N := ["_law_thing", "_law_each"]) (sc := defScope sLRow) (by decide +kernel))
          (fun _ _ _ _ _ => pg_name (i := 1) scLRow.nd rfl (Or.inl rfl)) (fun _ _ _ _ _ => pts_nil) (fun _ _ _ _ _ => pe_cal c1 hr (Nat.le_refl 1) (by rfl) (pa_cons (pv 1) pa_nil))) pa_nil)))))))
      (pss_one (ps_ret pe_bl)) pss_nil)
    (pss_one (ps_ret (pe_or (pe_cmpR (op_eqT0 hr.units) (pv 0) (pe_tup pa_nil) (nomark _)) (pe_one (pe_cmpR op_ne (pe_ix ix_tup (pv 0) (pe_un un_neg pe_int) (fun _ _ => rfl)) pe_int (nomark _)))))), ?_⟩
  walk_at "rd"
  refine ⟨v, rfl, isi hd (isi_tup d) ⟨isTupD d, rfl, ?_⟩⟩
  cases ht : isTupD d with
  | false =>
    have q' := q H (Same.refl H)
    rw [(not_tup ht).1] at q'
    exact iteT (iteT q')
  | true =>
    obtain ⟨p, xs, ds, rfl, rfl, np, hp, hx⟩ := tup_of hd ht
    have hn : xs.length < 100000 := by rw [hx.len]; have := hs.len; omega
    refine iteF (lc_mapT (fun d => V.bl (wholeB d)) rfl hp hx hn (wipe1 _ 1) (fun x d H1 hm s1 dx R k => ?_) fun L H1 s1 nL hL => ?_)
    · exact ⟨x, rfl, a, x, d, _, rfl, dx, hs.mem hm, k⟩
    refine ⟨L, ds.map wholeB, rfl, SqL.of (by rw [List.map_map]; exact hL), _, rfl, ?_⟩
    cases hw : (ds.map wholeB).all id with
    | false =>
      have q' : Q (.bl ((ds.map wholeB).all id && lastD ds (.int 0))) H1 := q H1 s1
      rw [hw] at q'
      exact iteT q'
    | true =>
      refine iteF ⟨.ref p, rfl, sz (by decide), fun t nt => ?_⟩
      have s2 := s1.trans (same_new (o := .tup []) nt)
      have q' : Q (.bl ((ds.map wholeB).all id && lastD ds (.int 0))) _ := q _ s2
      rw [hw] at q'
      refine ⟨p, t, xs, [], rfl, rfl, SqT.of (s2 _ _ hp), SqT.of upd_same, rfl, xs.isEmpty, rfl, ?_⟩
      rw [empty_iff hx]
      cases hds : ds with
      | nil => subst hds; exact iteT q'
      | cons d0 dr =>
        have ne : ds ≠ [] := by rw [hds]; simp
        exact iteF ⟨.ref p, rfl, 1, rfl, end_int (hx.same s2) (s2 _ _ hp) ne hw q'⟩
end
end K02

set_option Elab.async false
set_option linter.all false
set_option maxRecDepth 100000
set_option maxHeartbeats 4000000
local macro_rules | `(tactic| walk_at "rd") => `(tactic| dsimp only [L2.tSeq, L2.tNext, L2.tRet, L2.tRetN, L2.tAsg, L2.gName, L2.tIfS, L2.tDrop, L2.tCons, L2.tNil, L2.tC, L2.tVar, L2.tCB, L2.tAndV, L2.tOrV, L2.tNotV, L2.tB, L2.tTest, L2.tOp, L2.tUn, L2.tNot, L2.tAnd, L2.tOr, L2.tIf, L2.tCall, L2.tTup, L2.tLst, L2.tNotT, L2.tYes, L2.gTup, L2.gCons, L2.gNil, L2.gSub])
namespace K02
open PySem PySem.Spec PyProof.Rows L2 Tw
/-- an int from 0 on below n; the well is turned -/
def spDraw : Sp := fun vs H Q _ => ∃ a n, vs = [.ref a, .int n] ∧ We a H ∧ 0 < n ∧ n < 1073741824 ∧ ∀ d H', 0 ≤ d → d < n → Kp a H H' → We a H' → Q (.int d) H'
/-- one of a tuple's items -/
def spPick : Sp := fun vs H Q _ => ∃ a p xs, vs = [.ref a, .ref p] ∧ We a H ∧ p ≠ a ∧ H p = some (.tup xs) ∧ xs ≠ [] ∧ xs.length < 1000 ∧ ∀ (i : Nat) x H', xs[i]? = some x → Kp a H H' → We a H' → Q x H'
theorem kp_well {a : Addr} {H H' : Hp} {o : HO} (h : Kp a H H') : Kp a H (upd H' a o) := fun b u n e => by
  rw [upd_ne n]; exact h b u n e
section
variable {P : Program} {w : World} {K : PySem.W.Frag} {mg : Str → Option Value} {base : Heap}
theorem scDraw : FnScope ["_law_well_here", "_law_few", "_law_figure", "_law_seed"] ["_law_well_here", "_law_few"] (defScope sDraw) := ⟨rfl, rfl, rfl, by decide +kernel, rfl, by decide +kernel, by decide +kernel⟩
theorem ok_draw (D : Def K mg "_law_draw" sDraw ["_law_well_here", "_law_few"]) (nb : Nb mg) : Cal P w K mg base "_law_draw" 1 ["_law_well_here", "_law_few"] spDraw := by
  refine D.ok scDraw (fun vs H Q E h => ?_) (fun f cdv A out s H vs Q E hr h => ?_)
  · obtain ⟨a, n, rfl, _⟩ := h; rfl
  obtain ⟨a, n, rfl, ⟨x, y, z, hw⟩, n0, n1, q⟩ := h
  refine ⟨_, pss_cons (ps_if (pt_cmpR op_gt (pe_ix ix_list (pv 0) pe_int (fun _ _ => rfl)) pe_int (nomark _))
      (pss_cons (ps_asg (pe_callB (id := "divmod") call_divmod (by rfl) nb.dvm (by decide +kernel) (pa_cons (pe_ix ix_list (pv 0) pe_int (fun _ _ => rfl)) (pa_cons (pv 1) pa_nil)))
          (pg_tup rfl (pgs_cons (pg_sub (pv 0) pe_int set_list) (pgs_cons (pg_name (i := 2) scDraw.nd rfl (Or.inl rfl)) pgs_nil))))
        (pss_one (ps_ret (pv 2)))) pss_nil)
    (pss_cons (ps_asg (pe_op op_add (pe_ix ix_list (pv 0) pe_int (fun _ _ => rfl)) pe_int) (pg_sub (pv 0) pe_int set_list))
    (pss_cons (ps_set (i := 3) scDraw.nd rfl (Or.inl rfl) (pe_op op_mod (pe_callTy (T := "int") call_int1 (by rfl) nb.int (by decide +kernel)
        (pa_cons (pe_op op_add (pe_ix ix_list (pv 0) pe_int (fun _ _ => rfl)) (pe_op op_mul pe_int (pe_ix ix_list (pv 0) pe_int (fun _ _ => rfl)))) pa_nil)) pe_int))
    (pss_cons (ps_asg (pe_op op_mod (pe_callTy (T := "int") call_int1 (by rfl) nb.int (by decide +kernel)
        (pa_cons (pe_op op_add (pe_op op_mul (pv 3) (pe_op op_add (pe_op op_mod (pe_callTy (T := "int") call_int1 (by rfl) nb.int (by decide +kernel) (pa_cons (pv 3) pa_nil)) pe_int) pe_int))
          (pe_op op_mul pe_int (pe_ix ix_list (pv 0) pe_int (fun _ _ => rfl)))) pa_nil)) pe_int) (pg_sub (pv 0) pe_int set_list))
    (pss_one (ps_ret (pe_op op_mod (pe_callTy (T := "int") call_int1 (by rfl) nb.int (by decide +kernel) (pa_cons (pe_op op_fdiv (pe_ix ix_list (pv 0) pe_int (fun _ _ => rfl)) pe_int) pa_nil)) (pv 1))))))), ?_⟩
  walk_at "rd"
  refine ⟨.ref a, rfl, a, _, 0, .int x, rfl, rfl, SqL.of hw, rfl, x, 0, rfl, rfl, _, rfl, ite2 (fun c => ?_) (fun c => ?_)⟩
  · refine ⟨.ref a, rfl, a, _, 0, .int x, rfl, rfl, SqL.of hw, rfl, .int n, rfl, x, n, rfl, ⟨n0, n1⟩, fun t nt => ?_⟩
    have ta : t ≠ a := (show We a H from ⟨x, y, z, hw⟩).ne nt
    have h1 : upd H t (.tup [.int (x / n), .int (x % n)]) a = some (.lst [.int x, .int y, .int z]) := by rw [upd_ne ta.symm]; exact hw
    refine ⟨t, _, rfl, SqT.of upd_same, rfl, .int (x / n), _, rfl, .ref a, rfl, a, _, 0, 0, rfl, rfl, h1, rfl, .int (x % n), _, rfl, ⟨rfl, .int (x % n), rfl, ?_⟩⟩
    refine q _ _ (Int.emod_nonneg _ (by omega)) (Int.emod_lt_of_pos _ n0) (kp_well (kp_new nt)) ⟨x / n, y, z, upd_same⟩
  · refine ⟨.ref a, rfl, a, _, 2, .int z, rfl, rfl, SqL.of hw, rfl, z, 1, rfl, rfl, .ref a, rfl, a, _, 2, 2, rfl, rfl, hw, rfl, ?_⟩
    generalize hH1 : upd H a _ = H1
    have w1 : H1 a = some (.lst [.int x, .int y, .int (z + 1)]) := by rw [← hH1]; exact upd_same
    have k1 : Kp a H H1 := by rw [← hH1]; exact kp_well (Kp.refl a H)
    refine ⟨.ref a, rfl, a, _, 1, .int y, rfl, rfl, SqL.of w1, rfl, .ref a, rfl, a, _, 2, .int (z + 1), rfl, rfl, SqL.of w1, rfl, _, _, rfl, rfl, .inl ⟨by decide, by decide⟩, _, _, rfl, rfl, .inl ⟨_, rfl, _, _, rfl, rfl, (by show (0 : Int) < _; decide), ?_⟩⟩
    walk_at "rd"
    generalize hs : (_ : Int) % 2147483563 = sd
    have s0 : 0 ≤ sd := by rw [← hs]; exact Int.emod_nonneg _ (by decide)
    have s1 : sd < 2147483563 := by rw [← hs]; exact Int.emod_lt_of_pos _ (by decide)
    refine ⟨.int sd, rfl, .int sd, rfl, .inl ⟨sd, rfl, _, _, rfl, rfl, (by show (0 : Int) < _; decide), _, _, rfl, rfl, _, _, rfl, rfl, .inl ⟨by omega, by omega⟩, .ref a, rfl, a, _, 2, .int (z + 1), rfl, rfl, SqL.of w1, rfl, _, _, rfl, rfl, .inl ⟨by decide, by decide⟩, _, _, rfl, rfl, .inl ⟨_, rfl, _, _, rfl, rfl, (by show (0 : Int) < _; decide), ?_⟩⟩⟩
    walk_at "rd"
    refine ⟨.ref a, rfl, a, _, 1, 1, rfl, rfl, w1, rfl, ?_⟩
    generalize hy : (_ : Int) % 2147483563 = y2
    generalize hH2 : upd H1 a _ = H2
    have w2 : H2 a = some (.lst [.int x, .int y2, .int (z + 1)]) := by rw [← hH2]; exact upd_same
    have k2 : Kp a H H2 := by rw [← hH2]; exact kp_well k1
    refine ⟨.ref a, rfl, a, _, 1, .int y2, rfl, rfl, SqL.of w2, rfl, _, _, rfl, rfl, ⟨by decide, by decide⟩, .inl ⟨_, rfl, .int n, rfl, _, _, rfl, rfl, n0, ?_⟩⟩
    exact q _ _ (Int.emod_nonneg _ (by omega)) (Int.emod_lt_of_pos _ n0) k2 ⟨x, y2, z + 1, w2⟩

theorem scPick : FnScope ["_law_well_here", "_law_some"] ["_law_well_here", "_law_some"] (defScope sPick) := ⟨rfl, rfl, rfl, by decide +kernel, rfl, by decide +kernel, by decide +kernel⟩
theorem ok_pick (D : Def K mg "_law_pick" sPick ["_law_well_here", "_law_some"]) (nb : Nb mg) (c1 : Cal P w K mg base "_law_draw" 1 ["_law_well_here", "_law_few"] spDraw) : Cal P w K mg base "_law_pick" 2 ["_law_well_here", "_law_some"] spPick := by
  refine D.ok scPick (fun vs H Q E h => ?_) (fun f cdv A out s H vs Q E hr h => ?_)
  · obtain ⟨a, p, xs, rfl, _⟩ := h; rfl
  obtain ⟨a, p, xs, rfl, hw, np, hp, ne, hl, q⟩ := h
  refine ⟨_, pss_one (ps_ret (pe_ix ix_tup (pv 1) (pe_cal c1 hr (Nat.le_refl 1) (by rfl) (pa_cons (pv 0) (pa_cons (pe_callB (id := "len") call_len_seq (by rfl) nb.len PySem.boot_len (pa_cons (pv 1) pa_nil)) pa_nil))) (fun _ _ => rfl))), ?_⟩
  walk_at "rd"
  have l0 : 0 < xs.length := List.length_pos_iff.mpr ne
  refine ⟨.ref p, rfl, .ref a, rfl, .ref p, rfl, p, xs, rfl, .inr (SqT.of hp), a, _, rfl, hw, by omega, by omega, fun d H1 d0 d1 k1 w1 => ?_⟩
  obtain ⟨m, rfl⟩ := Int.eq_ofNat_of_zero_le d0
  have hm : m < xs.length := by omega
  exact ⟨p, xs, _, xs[m], rfl, rfl, SqT.of (k1 _ _ np hp), atI_nat (List.getElem?_eq_getElem hm), q m _ H1 (List.getElem?_eq_getElem hm) k1 w1⟩
end
end K02

set_option Elab.async false
set_option linter.all false
set_option maxRecDepth 100000
set_option maxHeartbeats 4000000
local macro_rules | `(tactic| walk_at "rd") => `(tactic| dsimp only [L2.tSeq, L2.tNext, L2.tRet, L2.tRetN, L2.tAsg, L2.gName, L2.tIfS, L2.tDrop, L2.tCons, L2.tNil, L2.tC, L2.tVar, L2.tCB, L2.tAndV, L2.tOrV, L2.tNotV, L2.tB, L2.tTest, L2.tOp, L2.tUn, L2.tNot, L2.tAnd, L2.tOr, L2.tIf, L2.tCall, L2.tTup, L2.tLst, L2.tNotT, L2.tYes, L2.gTup, L2.gCons, L2.gNil, L2.gSub, L2.tBM0, L2.tBM, L2.tWhile, L2.tFor, L2.iRng1])
namespace K02
open PySem PySem.Spec PyProof.Rows L2 Tw
/-- data that may be compared, at most n deep -/
def Nice (n : Nat) (d : PyData) : Prop := d.canLay0 = true ∧ d.depth ≤ n
theorem canAll {ds : List PyData} (h : ∀ d ∈ ds, d.canLay0 = true) : PyData.canLayAll0 ds = true := by
  induction ds with
  | nil => simp [PyData.canLayAll0]
  | cons d ds ih => simp only [PyData.canLayAll0, h d (by simp), ih fun e he => h e (by simp [he]), Bool.and_self]
theorem depAll {n : Nat} {ds : List PyData} (h : ∀ d ∈ ds, d.depth ≤ n) : PyData.depthAll ds ≤ n := by
  induction ds with
  | nil => simp [PyData.depthAll]
  | cons d ds ih =>
    simp only [PyData.depthAll]
    exact Nat.max_le.mpr ⟨h d (by simp), ih fun e he => h e (by simp [he])⟩
theorem nice_tup {n : Nat} {ds : List PyData} (h : ∀ d ∈ ds, Nice n d) : Nice (n + 1) (.tuple ds) :=
  ⟨by simp only [PyData.canLay0]; exact canAll fun d hd => (h d hd).1, by simp only [PyData.depth]; exact Nat.succ_le_succ (depAll fun d hd => (h d hd).2)⟩
theorem nice_lst {n : Nat} {ds : List PyData} (h : ∀ d ∈ ds, Nice n d) : Nice (n + 1) (.list ds) :=
  ⟨by simp only [PyData.canLay0]; exact canAll fun d hd => (h d hd).1, by simp only [PyData.depth]; exact Nat.succ_le_succ (depAll fun d hd => (h d hd).2)⟩
theorem nice_int (i : Int) : Nice 0 (.int i) := ⟨by simp [PyData.canLay0], by simp [PyData.depth]⟩
theorem Nice.up {n m : Nat} {d : PyData} (h : Nice n d) (l : n ≤ m) : Nice m d := ⟨h.1, Nat.le_trans h.2 l⟩
theorem Nice.shaped {n : Nat} {d : PyData} (h : Nice n d) (l : n ≤ 64) : SeqAt.shaped d = true := by
  unfold SeqAt.shaped
  rw [h.1, decide_eq_true (Nat.le_trans h.2 l)]; rfl
end K02

set_option Elab.async false
set_option linter.all false
set_option maxRecDepth 100000
set_option maxHeartbeats 4000000
/-! rows and polys in memory -/
namespace K02
open PySem PySem.Spec PyProof.Rows L2 Tw
/-- tuples are kept -/
def Kt (H H' : Hp) : Prop := ∀ b xs, H b = some (.tup xs) → H' b = some (.tup xs)
theorem Kt.of {H H' : Hp} (s : Same H H') : Kt H H' := fun b xs e => s b _ e
theorem Kt.trans {H H1 H2 : Hp} (x : Kt H H1) (y : Kt H1 H2) : Kt H H2 := fun b xs e => y b xs (x b xs e)
theorem kt_kp {a : Addr} {H H' : Hp} (w : We a H) (k : Kp a H H') : Kt H H' := fun b xs e => k b _ (fun z => by
  obtain ⟨x, y, c, h⟩ := w
  rw [z, h] at e; cases e) e
theorem kt_upd {L : Addr} {H : Hp} {ys : List V} {o : HO} (h : H L = some (.lst ys)) : Kt H (upd H L o) := fun b xs e => by
  rw [upd_ne (fun z => by rw [z, h] at e; cases e)]; exact e
def Ro (H : Hp) (v : V) (r : List Int) : Prop := ∃ p, v = .ref p ∧ H p = some (.tup (r.map V.int))
theorem Ro.kt {H H' : Hp} {v : V} {r : List Int} (k : Kt H H') (h : Ro H v r) : Ro H' v r := by
  obtain ⟨p, e, f⟩ := h
  exact ⟨p, e, k _ _ f⟩
def RoA (H : Hp) (xs : List V) (rs : List (List Int)) : Prop := xs.length = rs.length ∧ ∀ (i : Nat) v, xs[i]? = some v → ∃ r, rs[i]? = some r ∧ Ro H v r
theorem RoA.kt {H H' : Hp} {v : List V} {r : List (List Int)} (k : Kt H H') (h : RoA H v r) : RoA H' v r :=
  ⟨h.1, fun i v e => let ⟨r, e1, e2⟩ := h.2 i v e; ⟨r, e1, e2.kt k⟩⟩
def Po (H : Hp) (v : V) (p : List (List Int)) : Prop := ∃ q xs, v = .ref q ∧ H q = some (.tup xs) ∧ RoA H xs p
theorem Po.kt {H H' : Hp} {v : V} {r : List (List Int)} (k : Kt H H') (h : Po H v r) : Po H' v r := by
  obtain ⟨q, xs, e, f, g⟩ := h
  exact ⟨q, xs, e, k _ _ f, g.kt k⟩
theorem RoA.nil (H : Hp) : RoA H [] [] := ⟨rfl, fun i v e => by simp at e⟩
theorem RoA.snoc {H : Hp} {xs : List V} {rs : List (List Int)} {v : V} {r : List Int} (h : RoA H xs rs) (g : Ro H v r) : RoA H (xs ++ [v]) (rs ++ [r]) := by
  obtain ⟨h1, h2⟩ := h
  refine ⟨by simp [h1], fun i u e => ?_⟩
  rcases Nat.lt_trichotomy i xs.length with c | c | c
  · rw [List.getElem?_append_left c] at e
    obtain ⟨r', e1, e2⟩ := h2 i u e
    exact ⟨r', by rw [List.getElem?_append_left (by omega)]; exact e1, e2⟩
  · subst c
    rw [List.getElem?_append_right (Nat.le_refl _), Nat.sub_self] at e
    cases e
    refine ⟨r, ?_, g⟩
    rw [h1, List.getElem?_append_right (Nat.le_refl _), Nat.sub_self]
    rfl
  · rw [List.getElem?_eq_none (by simp; omega)] at e
    cases e
theorem RoA.take {H : Hp} {xs : List V} {rs : List (List Int)} (k : Nat) (h : RoA H xs rs) : RoA H (xs.take k) (rs.take k) := by
  refine ⟨by rw [List.length_take, List.length_take, h.1], fun i v e => ?_⟩
  rw [List.getElem?_take] at e ⊢
  split at e
  · rw [if_pos ‹_›]; exact h.2 i v e
  · cases e
theorem RoA.set {H : Hp} {xs : List V} {rs : List (List Int)} {v : V} {r : List Int} (k : Nat) (h : RoA H xs rs) (g : Ro H v r) : RoA H (xs.set k v) (rs.set k r) := by
  refine ⟨by rw [List.length_set, List.length_set, h.1], fun i u e => ?_⟩
  rw [List.getElem?_set] at e ⊢
  rw [← h.1]
  split at e
  · rw [if_pos ‹_›]
    split at e
    · rw [if_pos ‹_›]; cases e; exact ⟨r, rfl, g⟩
    · cases e
  · rw [if_neg ‹_›]; exact h.2 i u e
theorem RoA.get {H : Hp} {xs : List V} {rs : List (List Int)} {k : Nat} (h : RoA H xs rs) (hk : k < rs.length) : ∃ v, xs[k]? = some v ∧ Ro H v rs[k] := by
  have hx : k < xs.length := by rw [h.1]; exact hk
  obtain ⟨r, e1, e2⟩ := h.2 k xs[k] (List.getElem?_eq_getElem hx)
  rw [List.getElem?_eq_getElem hk] at e1
  cases e1
  exact ⟨_, List.getElem?_eq_getElem hx, e2⟩
/-! as data -/
def rowD (ns : List Int) : PyData := .tuple (ns.map PyData.int)
def polyD (p : List (List Int)) : PyData := .tuple (p.map rowD)
theorem da_ints (a : Addr) (H : Hp) : ∀ ns : List Int, DaAll a H (ns.map V.int) (ns.map PyData.int)
  | [] => .nil
  | n :: ns => .cons (.int n) (da_ints a H ns)
theorem We.nt {a p : Addr} {H : Hp} {xs : List V} (w : We a H) (h : H p = some (.tup xs)) : p ≠ a := fun z => by
  obtain ⟨x, y, c, e⟩ := w
  rw [z, e] at h; cases h
theorem da_row {a : Addr} {H : Hp} {v : V} {r : List Int} (w : We a H) (h : Ro H v r) : Da a H v (rowD r) := by
  obtain ⟨p, rfl, e⟩ := h
  exact .tup (We.nt w e) e (da_ints a H r)
theorem das_rows {a : Addr} {H : Hp} (w : We a H) : ∀ {xs : List V} {rs : List (List Int)}, RoA H xs rs → DaAll a H xs (rs.map rowD)
  | [], [], _ => .nil
  | [], r :: rs, h => by have := h.1; simp at this
  | x :: xs, [], h => by have := h.1; simp at this
  | x :: xs, r :: rs, h => by
    obtain ⟨r', e1, e2⟩ := h.2 0 x rfl
    cases e1
    refine .cons (da_row w e2) (das_rows w ⟨by have := h.1; simpa using this, fun i v e => ?_⟩)
    obtain ⟨r', e1, e2⟩ := h.2 (i + 1) v (by simpa using e)
    exact ⟨r', by simpa using e1, e2⟩
theorem da_poly {a : Addr} {H : Hp} {v : V} {p : List (List Int)} (w : We a H) (h : Po H v p) : Da a H v (polyD p) := by
  obtain ⟨q, xs, rfl, e, g⟩ := h
  exact .tup (We.nt w e) e (das_rows w g)
theorem nice_row (ns : List Int) : Nice 1 (rowD ns) := nice_tup fun d hd => by
  obtain ⟨i, _, rfl⟩ := List.mem_map.mp hd
  exact nice_int i
theorem nice_poly (p : List (List Int)) : Nice 2 (polyD p) := nice_tup fun d hd => by
  obtain ⟨i, _, rfl⟩ := List.mem_map.mp hd
  exact nice_row i
theorem rowB_ok {r : List Int} (h : okR r) : rowB (rowD r) = true := by
  unfold rowD rowB
  rw [Bool.and_eq_true]
  refine ⟨List.all_eq_true.mpr fun b hb => ?_, ?_⟩
  · rw [List.map_map] at hb
    obtain ⟨i, _, rfl⟩ := List.mem_map.mp hb
    rfl
  · unfold lastD
    rw [List.getLast?_map]
    cases e : r.getLast? with
    | none => rfl
    | some c => simpa [PyData.eqv] using h c e
theorem polyB_ok {p : List (List Int)} (h : okP p) : polyB (polyD p) = true := by
  unfold polyD polyB
  rw [Bool.and_eq_true]
  refine ⟨List.all_eq_true.mpr fun b hb => ?_, ?_⟩
  · rw [List.map_map] at hb
    obtain ⟨r, hr, rfl⟩ := List.mem_map.mp hb
    exact rowB_ok (h.1 r hr)
  · unfold lastD
    rw [List.getLast?_map]
    cases e : p.getLast? with
    | none => rfl
    | some r =>
      have := h.2 r e
      cases r with
      | nil => exact absurd rfl this
      | cons _ _ => simp [rowD, PyData.eqv, PyData.eqvAll]
theorem sm_row {n : Nat} {r : List Int} (h : r.length ≤ n) : Sm 1 n (rowD r) := sm_tup (by rw [List.length_map]; exact h) fun d hd => by
  obtain ⟨i, _, rfl⟩ := List.mem_map.mp hd
  exact sm_int _ _ i
theorem sm_poly {n b : Nat} {p : List (List Int)} (h : Bd n b p) : Sm 2 n (polyD p) := sm_tup (by rw [List.length_map]; exact h.1) fun d hd => by
  obtain ⟨r, hr, rfl⟩ := List.mem_map.mp hd
  exact sm_row (h.2 r hr).1
end K02

set_option Elab.async false
set_option linter.all false
set_option maxRecDepth 100000
set_option maxHeartbeats 4000000
local macro_rules | `(tactic| walk_at "rd") => `(tactic| dsimp only [Evl.tCut, L2.tSeq, L2.tNext, L2.tRet, L2.tRetN, L2.tAsg, L2.gName, L2.tIfS, L2.tDrop, L2.tCons, L2.tNil, L2.tC, L2.tVar, L2.tCB, L2.tAndV, L2.tOrV, L2.tNotV, L2.tB, L2.tTest, L2.tOp, L2.tUn, L2.tNot, L2.tAnd, L2.tOr, L2.tIf, L2.tCall, L2.tTup, L2.tLst, L2.tNotT, L2.tYes, L2.gTup, L2.gCons, L2.gNil, L2.gSub, L2.tBM0, L2.tBM, L2.tWhile, L2.tFor, L2.iRng1, L2.iRng2, L2.tAugS, Tw.iEnumT, L2.tCKw, L2.tAug, L2.ipI, RT.iRevA, L2.tPar, L2.tPar3, L2.tSl, L2.tNoPart, L2.tPart, Tw.tRevT])
namespace K02
open PySem PySem.Spec PyProof.Rows L2 Tw
/-! lists of values that stand for things -/
section
variable {α β : Type}
def RelA (R : Hp → V → α → Prop) (H : Hp) (xs : List V) (rs : List α) : Prop := xs.length = rs.length ∧ ∀ (i : Nat) v, xs[i]? = some v → ∃ r, rs[i]? = some r ∧ R H v r
def Stable (R : Hp → V → α → Prop) : Prop := ∀ H H' v r, Kt H H' → R H v r → R H' v r
theorem RelA.kt {R : Hp → V → α → Prop} (st : Stable R) {H H' : Hp} {xs : List V} {rs : List α} (k : Kt H H') (h : RelA R H xs rs) : RelA R H' xs rs :=
  ⟨h.1, fun i v e => let ⟨r, e1, e2⟩ := h.2 i v e; ⟨r, e1, st _ _ _ _ k e2⟩⟩
theorem RelA.snoc {R : Hp → V → α → Prop} {H : Hp} {xs : List V} {rs : List α} {v : V} {r : α} (h : RelA R H xs rs) (g : R H v r) : RelA R H (xs ++ [v]) (rs ++ [r]) := by
  obtain ⟨h1, h2⟩ := h
  refine ⟨by simp [h1], fun i u e => ?_⟩
  rcases Nat.lt_trichotomy i xs.length with c | c | c
  · rw [List.getElem?_append_left c] at e
    obtain ⟨r', e1, e2⟩ := h2 i u e
    exact ⟨r', by rw [List.getElem?_append_left (by omega)]; exact e1, e2⟩
  · subst c
    rw [List.getElem?_append_right (Nat.le_refl _), Nat.sub_self] at e
    cases e
    refine ⟨r, ?_, g⟩
    rw [h1, List.getElem?_append_right (Nat.le_refl _), Nat.sub_self]
    rfl
  · rw [List.getElem?_eq_none (by simp; omega)] at e
    cases e
theorem RelA.eq_map {f : α → V} {H : Hp} : ∀ {xs : List V} {rs : List α}, RelA (fun _ v r => v = f r) H xs rs → xs = rs.map f
  | [], [], _ => rfl
  | [], r :: rs, h => by have := h.1; simp at this
  | x :: xs, [], h => by have := h.1; simp at this
  | x :: xs, r :: rs, h => by
    obtain ⟨r', e1, e2⟩ := h.2 0 x rfl
    cases e1
    rw [List.map_cons, e2, RelA.eq_map (rs := rs) (xs := xs) (H := H) ⟨by have := h.1; simpa using this, fun i v e => by
      obtain ⟨r', e1, e2⟩ := h.2 (i + 1) v (by simpa using e)
      exact ⟨r', by simpa using e1, e2⟩⟩]
theorem RelA.of_map {f : α → V} {H : Hp} (rs : List α) : RelA (fun _ v r => v = f r) H (rs.map f) rs := ⟨by simp, fun i v e => by
  rw [List.getElem?_map] at e
  cases er : rs[i]? with
  | none => rw [er] at e; cases e
  | some r => rw [er] at e; cases e; exact ⟨r, rfl, rfl⟩⟩
theorem RelA.map {R : Hp → V → α → Prop} {H : Hp} {xs : List V} {rs : List α} (g : α → β) (S : Hp → V → β → Prop) (k : ∀ v r, r ∈ rs → R H v r → S H v (g r)) (h : RelA R H xs rs) : RelA S H xs (rs.map g) :=
  ⟨by rw [List.length_map]; exact h.1, fun i v e => by
    obtain ⟨r, e1, e2⟩ := h.2 i v e
    exact ⟨g r, by rw [List.getElem?_map, e1]; rfl, k v r (List.mem_of_getElem? e1) e2⟩⟩
theorem stable_eq (f : α → V) : Stable (fun _ v r => v = f r) := fun _ _ _ _ _ h => h
theorem stable_ro : Stable Ro := fun _ _ _ _ k h => h.kt k
variable {K : PySem.W.Frag} {te : TE} {i j : Nat} {elt : TE} {vs : List Nat} {σ : L2.St} {H : Hp} {Q : VK} {p : Addr} {xs : List V} {rs : List α} {S : Hp → V → α → Prop} {R : Hp → V → β → Prop} {g : α → β}
theorem rel_step {H1 H2 : Hp} {D : Addr} {m : Nat} {ys : List V} {y : V} {r : α} (sR : Stable R) (nD : H D = none) (hD : H1 D = some (.lst ys)) (s1 : Same H H1) (s2 : Same H1 H2) (er : rs[m]? = some r) (hr : RelA R H1 ys ((rs.take m).map g)) (hy : R H2 y (g r)) :
    H2 D = some (.lst ys) ∧ ys.length = m ∧ Same H (upd H2 D (.lst (ys ++ [y]))) ∧ upd H2 D (.lst (ys ++ [y])) D = some (.lst (ys ++ [y])) ∧ RelA R (upd H2 D (.lst (ys ++ [y]))) (ys ++ [y]) ((rs.take (m + 1)).map g) := by
  have e2 : H2 D = some (.lst ys) := s2 _ _ hD
  have hm : m < rs.length := (List.getElem?_eq_some_iff.mp er).1
  refine ⟨e2, ?_, same_upd (s1.trans s2) nD, upd_same, ?_⟩
  · rw [hr.1, List.length_map, List.length_take]; omega
  · rw [List.take_add_one, er, List.map_append]
    exact ((hr.kt sR (Kt.of s2)).snoc hy).kt sR (kt_upd e2)
/-- [.. for x in t], t a tuple of things -/
theorem lc_relT (sS : Stable S) (sR : Stable R) (hv : σ[i]? = some (some (.ref p))) (ht : H p = some (.tup xs)) (hd : RelA S H xs rs) (hn : rs.length < 100000)
    (hw : ∀ x, wipe ((wipe σ vs).set j (some x)) vs = wipe σ vs)
    (he : ∀ x r H1, r ∈ rs → Same H H1 → S H1 x r → ∀ Z : VK, (∀ y H2, Same H1 H2 → R H2 y (g r) → Z y H2) → elt ((wipe σ vs).set j (some x)) H1 Z)
    (q : ∀ D ys H', Same H H' → H D = none → H' D = some (.lst ys) → RelA R H' ys (rs.map g) → Q (.ref D) H') : tLc (iTup K (tVar i)) (gName j) tYes elt vs σ H Q := by
  refine ⟨.ref p, hv, p, rfl, ⟨xs, SqT.of ht⟩, fun D hD => ?_⟩
  refine lc_tup (xs := xs) (fun m H' => Same H H' ∧ ∃ ys, H' D = some (.lst ys) ∧ RelA R H' ys ((rs.take m).map g)) ⟨same_new hD, [], upd_same, rfl, fun i v e => by simp at e⟩ (fun m H' _ h => SqT.of (h.1 _ _ ht)) (fun m x H1 hx h => ?_) (fun H' h => ?_)
  · obtain ⟨h1, ys, h2, h3⟩ := h
    obtain ⟨r, e1, e2⟩ := hd.2 m x hx
    have hm : m < xs.length := (List.getElem?_eq_some_iff.mp hx).1
    have hx2 := hd.1
    refine ⟨hw x, ?_⟩
    unfold tYes
    simp only [if_true]
    refine he x r H1 (List.mem_of_getElem? e1) h1 (sS _ _ _ _ (Kt.of h1) e2) _ fun y H2 s2 ry => ?_
    obtain ⟨a1, a2, a3, a4, a5⟩ := rel_step sR hD h2 h1 s2 e1 h3 ry
    exact ⟨ys, a1, lt_line (by omega), a3, _, a4, a5⟩
  · obtain ⟨h1, ys, h2, h3⟩ := h
    rw [hd.1, List.take_length] at h3
    exact q D ys H' h1 hD h2 h3
/-- .. t a list -/
theorem lc_relL (sS : Stable S) (sR : Stable R) (hv : σ[i]? = some (some (.ref p))) (ht : H p = some (.lst xs)) (hd : RelA S H xs rs) (hn : rs.length < 100000)
    (hw : ∀ x, wipe ((wipe σ vs).set j (some x)) vs = wipe σ vs)
    (he : ∀ x r H1, r ∈ rs → Same H H1 → S H1 x r → ∀ Z : VK, (∀ y H2, Same H1 H2 → R H2 y (g r) → Z y H2) → elt ((wipe σ vs).set j (some x)) H1 Z)
    (q : ∀ D ys H', Same H H' → H D = none → H' D = some (.lst ys) → RelA R H' ys (rs.map g) → Q (.ref D) H') : tLc (iList K (tVar i)) (gName j) tYes elt vs σ H Q := by
  refine ⟨.ref p, hv, p, rfl, ⟨xs, SqL.of ht⟩, fun D hD => ?_⟩
  refine lc_list (xs := xs) (fun m H' => Same H H' ∧ ∃ ys, H' D = some (.lst ys) ∧ RelA R H' ys ((rs.take m).map g)) ⟨same_new hD, [], upd_same, rfl, fun i v e => by simp at e⟩ (fun m H' _ h => SqL.of (h.1 _ _ ht)) (fun m x H1 hx h => ?_) (fun H' h => ?_)
  · obtain ⟨h1, ys, h2, h3⟩ := h
    obtain ⟨r, e1, e2⟩ := hd.2 m x hx
    have hm : m < xs.length := (List.getElem?_eq_some_iff.mp hx).1
    have hx2 := hd.1
    refine ⟨hw x, ?_⟩
    unfold tYes
    simp only [if_true]
    refine he x r H1 (List.mem_of_getElem? e1) h1 (sS _ _ _ _ (Kt.of h1) e2) _ fun y H2 s2 ry => ?_
    obtain ⟨a1, a2, a3, a4, a5⟩ := rel_step sR hD h2 h1 s2 e1 h3 ry
    exact ⟨ys, a1, lt_line (by omega), a3, _, a4, a5⟩
  · obtain ⟨h1, ys, h2, h3⟩ := h
    rw [hd.1, List.take_length] at h3
    exact q D ys H' h1 hD h2 h3
end
/-- a fraction in memory -/
def Pr (H : Hp) (v : V) (a b : Int) : Prop := ∃ p, v = .ref p ∧ H p = some (.tup [.int a, .int b])
theorem Pr.kt {H H' : Hp} {v : V} {a b : Int} (k : Kt H H') (h : Pr H v a b) : Pr H' v a b := by
  obtain ⟨p, e, f⟩ := h
  exact ⟨p, e, k _ _ f⟩
theorem Pr.ix0 {K : PySem.W.Frag} {H : Hp} {v : V} {a b : Int} {Q : VK} (h : Pr H v a b) (q : Q (.int a) H) : rIxT K v (.int 0) H Q := by
  obtain ⟨p, rfl, f⟩ := h
  exact ⟨p, _, 0, .int a, rfl, rfl, SqT.of f, rfl, q⟩
theorem Pr.ix1 {K : PySem.W.Frag} {H : Hp} {v : V} {a b : Int} {Q : VK} (h : Pr H v a b) (q : Q (.int b) H) : rIxT K v (.int 1) H Q := by
  obtain ⟨p, rfl, f⟩ := h
  exact ⟨p, _, 1, .int b, rfl, rfl, SqT.of f, rfl, q⟩
def spCommon : Sp := fun vs H Q _ => ∃ i j : Int, vs = [.int i, .int j] ∧ ∀ H', Same H H' → Q (.int (Nat.gcd i.natAbs j.natAbs : Nat)) H'
def spLean : Sp := fun vs H Q _ => ∃ i j : Int, vs = [.int i, .int j] ∧ 0 < j ∧ j < 1073741824 ∧ ∀ v a b H', Same H H' → Pr H' v a b → Lo a b i j → Q v H'
section
variable {P : Program} {w : World} {K : PySem.W.Frag} {mg : Str → Option Value} {base : Heap}
theorem gcd_turn {f r : Nat} : Nat.gcd r (f % r) = Nat.gcd f r := by
  rw [Nat.gcd_comm f r, Nat.gcd_rec r f, Nat.gcd_comm]
theorem scCommon : FnScope ["_law_one", "_law_two", "_law_far", "_law_rest"] ["_law_one", "_law_two"] (defScope sCommon) := ⟨rfl, rfl, rfl, by decide +kernel, rfl, by decide +kernel, by decide +kernel⟩
theorem ok_common (D : Def K mg "_law_common" sCommon ["_law_one", "_law_two"]) (nb : Nb mg) : Cal P w K mg base "_law_common" 1 ["_law_one", "_law_two"] spCommon := by
  refine D.ok scCommon (fun vs H Q E h => ?_) (fun f cdv A out s H vs Q E hr h => ?_)
  · obtain ⟨i, j, rfl, _⟩ := h; rfl
  obtain ⟨i, j, rfl, q⟩ := h
  refine ⟨_, pss_cons (ps_par (i := 2) (j := 3) rfl scCommon.nd rfl rfl (by decide) rfl rfl (pa_cons (pe_callB (id := "abs") call_abs (by rfl) nb.abs (by decide +kernel) (pa_cons (pv 0) pa_nil)) (pa_cons (pe_callB (id := "abs") call_abs (by rfl) nb.abs (by decide +kernel) (pa_cons (pv 1) pa_nil)) pa_nil)) rfl)
    (pss_cons (ps_while PassesOwn.never (pt_cmpR op_ne (pv 3) pe_int (nomark _))
      (pss_one (ps_par (i := 2) (j := 3) rfl scCommon.nd rfl rfl (by decide) rfl rfl (pa_cons (pv 3) (pa_cons (pe_op op_mod (pe_callTy (T := "int") call_int1 (by rfl) nb.int (by decide +kernel) (pa_cons (pv 2) pa_nil)) (pv 3)) pa_nil)) rfl)))
    (pss_one (ps_ret (pv 2)))), ?_⟩
  walk_at "rd"
  refine ⟨.int i, rfl, i, rfl, .int j, rfl, j, rfl, _, _, rfl, ?_⟩
  have ei : (if i < 0 then -i else i) = (i.natAbs : Int) := by split <;> omega
  have ej : (if j < 0 then -j else j) = (j.natAbs : Int) := by split <;> omega
  refine ⟨fun m σ H' => ∃ f r : Nat, m = r ∧ σ = [some (.int i), some (.int j), some (.int (f : Int)), some (.int (r : Int))] ∧ Same H H' ∧ Nat.gcd f r = Nat.gcd i.natAbs j.natAbs, ⟨j.natAbs, i.natAbs, j.natAbs, rfl, by rw [ei, ej]; rfl, Same.refl H, rfl⟩, ?_⟩
  rintro m σ H1 ⟨f, r, rfl, rfl, s1, g⟩
  refine ⟨.int m, rfl, rfl, _, rfl, ?_⟩
  rw [dec_int]
  by_cases c : m = 0
  · subst c
    refine iteF ⟨_, rfl, ?_⟩
    rw [Nat.gcd_zero_right] at g
    rw [g]
    exact q _ s1
  · rw [show ((m : Int) == 0) = false from beq_eq_false_iff_ne.mpr (by omega)]
    refine iteT ⟨fun σ' H' => ∃ m' f : Nat, m' < m ∧ σ' = [some (.int i), some (.int j), some (.int (f : Int)), some (.int (m' : Int))] ∧ Same H H' ∧ Nat.gcd f m' = Nat.gcd i.natAbs j.natAbs, fun σ' H' ⟨m', f', a1, a2, a3, a4⟩ => ⟨m', a1, f', m', rfl, a2, a3, a4⟩, ?_⟩
    refine ⟨.int m, rfl, .int f, rfl, .inl ⟨f, rfl, .int m, rfl, f, m, rfl, rfl, by show (0 : Int) < _; omega, _, _, rfl, ?_⟩⟩
    exact ⟨f % m, m, Nat.mod_lt _ (by omega), rfl, s1, by rw [gcd_turn]; exact g⟩

theorem scLean : FnScope ["_law_top", "_law_base", "_law_far"] ["_law_top", "_law_base"] (defScope sLean) := ⟨rfl, rfl, rfl, by decide +kernel, rfl, by decide +kernel, by decide +kernel⟩
theorem ok_lean (D : Def K mg "_law_lean" sLean ["_law_top", "_law_base"]) (c1 : Cal P w K mg base "_law_common" 1 ["_law_one", "_law_two"] spCommon) : Cal P w K mg base "_law_lean" 2 ["_law_top", "_law_base"] spLean := by
  refine D.ok scLean (fun vs H Q E h => ?_) (fun f cdv A out s H vs Q E hr h => ?_)
  · obtain ⟨i, j, rfl, _⟩ := h; rfl
  obtain ⟨i, j, rfl, j0, j1, q⟩ := h
  refine ⟨_, pss_cons (ps_set (i := 2) scLean.nd rfl (Or.inl rfl) (pe_ifExp (pt_cmpR op_gt (pv 1) pe_int (nomark _)) (pe_cal c1 hr (Nat.le_refl 1) (by rfl) (pa_cons (pv 0) (pa_cons (pv 1) pa_nil)))
      (pe_op op_sub pe_int (pe_cal c1 hr (Nat.le_refl 1) (by rfl) (pa_cons (pv 0) (pa_cons (pv 1) pa_nil))))))
    (pss_one (ps_ret (pe_tup (pa_cons (pe_op op_fdiv (pv 0) (pv 2)) (pa_cons (pe_op op_fdiv (pv 1) (pv 2)) pa_nil))))), ?_⟩
  walk_at "rd"
  refine ⟨.int j, rfl, j, 0, rfl, rfl, _, rfl, ite2 (fun c => ?_) (fun c => absurd (decide_eq_true j0) c)⟩
  refine ⟨.int i, rfl, .int j, rfl, i, j, rfl, fun H1 s1 => ?_⟩
  have g0 : 0 < Nat.gcd i.natAbs j.natAbs := Nat.gcd_pos_of_pos_right _ (by omega)
  have g1 : Nat.gcd i.natAbs j.natAbs ≤ j.natAbs := Nat.gcd_le_right _ (by omega)
  refine ⟨.int i, rfl, _, rfl, i, _, rfl, rfl, ⟨by omega, by omega⟩, .int j, rfl, _, rfl, j, _, rfl, rfl, ⟨by omega, by omega⟩, sz (by simp), fun t nt => ?_⟩
  exact q _ _ _ _ (s1.trans (same_new nt)) ⟨t, rfl, upd_same⟩ (lo_lean j0)
end
/-- a new well -/
def spWell (K : PySem.W.Frag) : Sp := fun vs H Q _ => ∃ (p : Addr) (ns : List Int) (k : Int), vs = [.ref p, .int k] ∧ SqL K H p (ns.map V.int) ∧ ns.length ≤ 63 ∧ 0 ≤ k ∧ ∀ a H', Same H H' → H a = none → We a H' → Q (.ref a) H'
def spLaw (K : PySem.W.Frag) : Sp := fun vs H Q _ => ∃ (p : Addr) (ns : List Int), vs = [.ref p] ∧ SqL K H p (ns.map V.int) ∧ ns.length ≤ 63 ∧ ∀ H', Q (.bl true) H'
section
variable {P : Program} {w : World} {K : PySem.W.Frag} {mg : Str → Option Value} {base : Heap}
theorem scWell : FnScope ["_law_script", "_law_at", "_law_mixed", "_law_cell", "_law_own"] ["_law_script", "_law_at"] (defScope sWell) := ⟨rfl, rfl, rfl, by decide +kernel, rfl, by decide +kernel, by decide +kernel⟩
theorem ok_well (D : Def K mg "_law_well" sWell ["_law_script", "_law_at"]) (nb : Nb mg) : Cal P w K mg base "_law_well" 1 ["_law_script", "_law_at"] (spWell K) := by
  refine D.ok scWell (fun vs H Q E h => ?_) (fun f cdv A out s H vs Q E hr h => ?_)
  · obtain ⟨p, ns, k, rfl, _⟩ := h; rfl
  obtain ⟨p, ns, k, rfl, hp, hl, k0, q⟩ := h
  refine ⟨_, pss_cons (ps_set (i := 2) scWell.nd rfl (Or.inl rfl) (pe_op op_add pe_int (pe_op op_mul pe_int (pv 1))))
    (pss_cons (ps_for PassesOwn.never rfl (pi_list (pe_slice sl_list (pv 0) po_none (po_some pe_int))) (pg_name (i := 3) scWell.nd rfl (Or.inl rfl))
        (pss_one (ps_set (i := 2) scWell.nd rfl (Or.inl rfl) (pe_op op_mod (pe_callTy (T := "int") call_int1 (by rfl) nb.int (by decide +kernel)
          (pa_cons (pe_op op_add (pe_op op_add (pe_op op_mul (pv 2) pe_int) (pe_op op_mod (pe_callTy (T := "int") call_int1 (by rfl) nb.int (by decide +kernel) (pa_cons (pv 3) pa_nil)) pe_int)) pe_int) pa_nil)) pe_int))))
    (Evl.pss_cut (ps_set (i := 4) scWell.nd rfl (Or.inl rfl) (pe_ifExp (pt_cmpR op_lt (pv 1) (pe_callB (id := "len") call_len_seq (by rfl) nb.len PySem.boot_len (pa_cons (pv 0) pa_nil)) (nomark _))
        (pe_callTy (T := "int") call_int1 (by rfl) nb.int (by decide +kernel) (pa_cons (pe_ix ix_list (pv 0) (pv 1) (fun _ _ => rfl)) pa_nil)) pe_int))
    (pss_cons (ps_set (i := 2) scWell.nd rfl (Or.inl rfl) (pe_op op_mod (pe_callTy (T := "int") call_int1 (by rfl) nb.int (by decide +kernel)
        (pa_cons (pe_op op_add (pe_op op_add (pe_op op_mul (pv 2) pe_int) (pe_op op_mul (pe_op op_mod (pe_callTy (T := "int") call_int1 (by rfl) nb.int (by decide +kernel) (pa_cons (pv 4) pa_nil)) pe_int) pe_int)) pe_int) pa_nil)) pe_int))
    (pss_one (ps_ret (pe_lst (pa_cons (pe_ifExp (PW.pt (pw_or (pt_cmpR op_lt (pv 4) pe_int (nomark _)) (pw_or1 (pt_cmpR op_ge (pv 4) (pe_op op_pow pe_int pe_int) (nomark _)))))
        (pe_callB (id := "abs") call_abs (by rfl) nb.abs (by decide +kernel) (pa_cons (pv 4) pa_nil)) pe_int) (pa_cons (pv 2) (pa_cons pe_int pa_nil))))))))), ?_⟩
  walk_at "rd"
  refine ⟨.int k, rfl, _, _, rfl, rfl, .inl ⟨by decide, by decide⟩, _, _, rfl, rfl, .ref p, rfl, 9, rfl, p, _, rfl, hp, fun c nc => ?_⟩
  have s1 := same_new (o := .lst (L2.cutV (ns.map V.int) none (some 9))) nc
  have hc : upd H c (.lst (L2.cutV (ns.map V.int) none (some 9))) c = some (.lst (L2.cutV (ns.map V.int) none (some 9))) := upd_same
  generalize upd H c _ = H1 at s1 hc ⊢
  have hp1 : SqL K H1 p (ns.map V.int) := s1.seq hp
  refine ⟨c, rfl, ⟨_, SqL.of hc⟩, for_lst (xs := L2.cutV (ns.map V.int) none (some 9)) (fun i σ H' => ∃ (mx : Int) (x3 : Option V), σ = [some (.ref p), some (.int k), some (.int mx), x3, none] ∧ H' = H1) ⟨_, none, rfl, rfl⟩ (fun i σ' H' _ h => ?_) (fun i x σ' H' hx h => ?_) (fun σ' H' h => ?_)⟩
  · obtain ⟨mx, x3, rfl, rfl⟩ := h; exact SqL.of hc
  · obtain ⟨mx, x3, rfl, rfl⟩ := h
    obtain ⟨n, _, rfl⟩ : ∃ n, n ∈ ns ∧ V.int n = x := List.mem_map.mp (List.mem_of_mem_drop (List.mem_of_mem_take (List.mem_of_getElem? hx)))
    refine ⟨.int mx, rfl, _, _, rfl, rfl, .inr ⟨by decide, by decide⟩, .int n, rfl, .inl ⟨n, rfl, _, _, rfl, rfl, (by show (0 : Int) < _; decide), _, _, rfl, rfl, _, _, rfl, rfl, .inl ⟨_, rfl, _, _, rfl, rfl, (by show (0 : Int) < _; decide), ?_⟩⟩⟩
    exact ⟨_, some (.int n), rfl, rfl⟩
  · obtain ⟨mx, x3, rfl, rfl⟩ := h
    refine ⟨fun σ2 H2 => ∃ o : Int, σ2 = [some (.ref p), some (.int k), some (.int mx), x3, some (.int o)] ∧ H2 = H', ⟨.int k, rfl, .ref p, rfl, p, _, rfl, .inl hp1, _, _, rfl, rfl, _, rfl, ite2 (fun c1 => ?_) (fun c1 => ⟨0, rfl, rfl⟩)⟩, ?_⟩
    · have c1 := of_decide_eq_true c1
      rw [List.length_map] at c1
      obtain ⟨j, rfl⟩ := Int.eq_ofNat_of_zero_le k0
      have hj : j < ns.length := by omega
      refine ⟨.ref p, rfl, .int j, rfl, p, _, j, .int ns[j], rfl, rfl, hp1, atI_nat (by rw [List.getElem?_map, List.getElem?_eq_getElem hj]; rfl), .inl ⟨_, rfl, ns[j], rfl, rfl⟩⟩
    · rintro σ2 H2 ⟨o, rfl, rfl⟩
      refine ⟨.int mx, rfl, _, _, rfl, rfl, .inr ⟨by decide, by decide⟩, .int o, rfl, .inl ⟨o, rfl, _, _, rfl, rfl, (by show (0 : Int) < _; decide), _, _, rfl, rfl, .inr ⟨by decide, by decide⟩, _, _, rfl, rfl, _, _, rfl, rfl, .inl ⟨_, rfl, _, _, rfl, rfl, (by show (0 : Int) < _; decide), ?_⟩⟩⟩
      have fin : ∀ x y : Int, [V.int x, .int y, .int 0].length ≤ sizeLine ∧ ∀ a, H2 a = none → Q (.ref a) (upd H2 a (.lst [.int x, .int y, .int 0])) := fun x y => ⟨sz (by simp), fun a na => q a _ (s1.trans (same_new na)) (s1.free na) ⟨_, _, _, upd_same⟩⟩
      refine ⟨.int o, rfl, _, _, rfl, rfl, _, rfl, ite2 (fun c1 => ?_) (fun c1 => ?_)⟩
      · exact iteT ⟨.int o, rfl, o, rfl, _, rfl, fin _ _⟩
      · refine ⟨.int o, rfl, _, _, rfl, rfl, ⟨by decide, by decide, by decide⟩, _, _, rfl, rfl, _, rfl, ite2 (fun c2 => ?_) (fun c2 => ?_)⟩
        · exact ⟨.int o, rfl, o, rfl, _, rfl, fin _ _⟩
        · exact ⟨_, rfl, fin _ _⟩

end
end K02

set_option Elab.async false
set_option linter.all false
set_option maxRecDepth 100000
set_option maxHeartbeats 4000000
local macro_rules | `(tactic| walk_at "rd") => `(tactic| dsimp only [Evl.tCut, L2.tSeq, L2.tNext, L2.tRet, L2.tRetN, L2.tAsg, L2.gName, L2.tIfS, L2.tDrop, L2.tCons, L2.tNil, L2.tC, L2.tVar, L2.tCB, L2.tAndV, L2.tOrV, L2.tNotV, L2.tB, L2.tTest, L2.tOp, L2.tUn, L2.tNot, L2.tAnd, L2.tOr, L2.tIf, L2.tCall, L2.tTup, L2.tLst, L2.tNotT, L2.tYes, L2.gTup, L2.gCons, L2.gNil, L2.gSub, L2.tBM0, L2.tBM, L2.tWhile, L2.tFor, L2.iRng1, L2.iRng2, L2.tAugS, Tw.iEnumT, L2.tCKw, L2.tAug, L2.ipI, RT.iRevA, L2.tPar, L2.tPar3, L2.tSl, L2.tNoPart, L2.tPart, Tw.tRevT])
namespace K02

open PySem PySem.Spec PyProof.Rows L2 Tw
theorem lo_num' {a b N D : Int} (h : Lo a b N D) (d0 : 0 < D) : a.natAbs ≤ N.natAbs := lo_num h d0
def Sp2 (n m : Int) : Prop := n.natAbs ≤ 1000000 ∧ 0 < m ∧ m ≤ 7 ∧ Nat.gcd n.natAbs m.natAbs = 1
def spInt : Sp := fun vs H Q _ => ∃ a, vs = [.ref a] ∧ We a H ∧ ∀ (i : Int) H', i.natAbs ≤ 1000000 → Kp a H H' → We a H' → Q (.int i) H'
def spPart : Sp := fun vs H Q _ => ∃ a, vs = [.ref a] ∧ We a H ∧ ∀ v n m H', Kp a H H' → We a H' → Pr H' v n m → Sp2 n m → Q v H'
def spTrimI : Sp := fun vs H Q _ => ∃ p l, vs = [.ref p] ∧ (H p = some (.lst (l.map V.int)) ∨ H p = some (.tup (l.map V.int))) ∧ l.length ≤ 1000 ∧ ∀ v H', Same H H' → Ro H' v (trimI l) → Q v H'
def spRowM : Sp := fun vs H Q _ => ∃ a n, vs = [.ref a, .int n] ∧ We a H ∧ 0 ≤ n ∧ n ≤ 100 ∧ ∀ v ns H', Kp a H H' → We a H' → Ro H' v ns → okR ns → (ns.length : Int) ≤ n → (∀ c ∈ ns, c.natAbs ≤ 1000000) → Q v H'
section
variable {P : Program} {w : World} {K : PySem.W.Frag} {mg : Str → Option Value} {base : Heap}
theorem scSmall : FnScope ["_law_well_here", "_law_branch"] ["_law_well_here"] (defScope sSmall) := ⟨rfl, rfl, rfl, by decide +kernel, rfl, by decide +kernel, by decide +kernel⟩
theorem ok_small (D : Def K mg "_law_small" sSmall ["_law_well_here"]) (c1 : Cal P w K mg base "_law_draw" 1 ["_law_well_here", "_law_few"] spDraw) : Cal P w K mg base "_law_small" 2 ["_law_well_here"] spInt := by
  refine D.ok scSmall (fun vs H Q E h => ?_) (fun f cdv A out s H vs Q E hr h => ?_)
  · obtain ⟨a, rfl, _⟩ := h; rfl
  obtain ⟨a, rfl, hw, q⟩ := h
  refine ⟨_, pss_cons (ps_set (i := 1) scSmall.nd rfl (Or.inl rfl) (pe_cal c1 hr (by decide) (by rfl) (pa_cons (pv 0) (pa_cons pe_int pa_nil))))
    (pss_cons (ps_if (pt_cmpR op_lt (pv 1) pe_int (nomark _)) (pss_one (ps_ret (pe_op op_sub (pe_cal c1 hr (by decide) (by rfl) (pa_cons (pv 0) (pa_cons pe_int pa_nil))) pe_int))) pss_nil)
    (pss_one (ps_ret (pe_ifExp (pt_cmpR op_lt (pv 1) pe_int (nomark _)) (pe_op op_sub (pe_cal c1 hr (by decide) (by rfl) (pa_cons (pv 0) (pa_cons pe_int pa_nil))) pe_int)
      (pe_op op_sub (pe_cal c1 hr (by decide) (by rfl) (pa_cons (pv 0) (pa_cons pe_int pa_nil))) pe_int))))), ?_⟩
  walk_at "rd"
  refine ⟨.ref a, rfl, a, _, rfl, hw, by decide, by decide, fun d H1 d0 d1 k1 w1 => ?_⟩
  refine ⟨.int d, rfl, _, _, rfl, rfl, _, rfl, ite2 (fun c => ?_) (fun c => ?_)⟩
  · refine ⟨.ref a, rfl, a, _, rfl, w1, by decide, by decide, fun e H2 e0 e1 k2 w2 => ⟨e, _, rfl, rfl, q _ H2 (by omega) (k1.trans k2) w2⟩⟩
  · refine ⟨.int d, rfl, _, _, rfl, rfl, _, rfl, ite2 (fun c => ?_) (fun c => ?_)⟩
    · refine ⟨.ref a, rfl, a, _, rfl, w1, by decide, by decide, fun e H2 e0 e1 k2 w2 => ⟨e, _, rfl, rfl, q _ H2 (by omega) (k1.trans k2) w2⟩⟩
    · refine ⟨.ref a, rfl, a, _, rfl, w1, by decide, by decide, fun e H2 e0 e1 k2 w2 => ⟨e, _, rfl, rfl, q _ H2 (by omega) (k1.trans k2) w2⟩⟩
theorem scPart : FnScope ["_law_well_here", "_law_top"] ["_law_well_here"] (defScope sPart) := ⟨rfl, rfl, rfl, by decide +kernel, rfl, by decide +kernel, by decide +kernel⟩
theorem ok_part (D : Def K mg "_law_part" sPart ["_law_well_here"]) (c1 : Cal P w K mg base "_law_small" 2 ["_law_well_here"] spInt) (c2 : Cal P w K mg base "_law_lean" 2 ["_law_top", "_law_base"] spLean) (c3 : Cal P w K mg base "_law_pick" 2 ["_law_well_here", "_law_some"] spPick) : Cal P w K mg base "_law_part" 3 ["_law_well_here"] spPart := by
  refine D.ok scPart (fun vs H Q E h => ?_) (fun f cdv A out s H vs Q E hr h => ?_)
  · obtain ⟨a, rfl, _⟩ := h; rfl
  obtain ⟨a, rfl, hw, q⟩ := h
  refine ⟨_, pss_cons (ps_set (i := 1) scPart.nd rfl (Or.inl rfl) (pe_cal c1 hr (by decide) (by rfl) (pa_cons (pv 0) pa_nil)))
    (pss_one (ps_ret (pe_cal c2 hr (by decide) (by rfl) (pa_cons (pv 1) (pa_cons (pe_cal c3 hr (by decide) (by rfl) (pa_cons (pv 0) (pa_cons (pe_tup (pa_cons pe_int (pa_cons pe_int (pa_cons pe_int (pa_cons pe_int (pa_cons pe_int (pa_cons pe_int (pa_cons pe_int (pa_cons pe_int pa_nil))))))))) pa_nil))) pa_nil))))), ?_⟩
  walk_at "rd"
  refine ⟨.ref a, rfl, a, rfl, hw, fun i H1 hi k1 w1 => ⟨.int i, rfl, .ref a, rfl, sz (by simp), fun t nt => ?_⟩⟩
  have s2 := same_new (o := .tup [.int 1, .int 1, .int 1, .int 2, .int 3, .int 1, .int 4, .int 7]) nt
  refine ⟨a, t, _, rfl, w1.to s2, w1.ne nt, upd_same, by simp, by simp, fun j x H3 hj k3 w3 => ?_⟩
  obtain ⟨b, rfl, b0, b7⟩ : ∃ b : Int, x = .int b ∧ 0 < b ∧ b ≤ 7 := by
    have := List.mem_of_getElem? hj
    simp only [List.mem_cons, List.not_mem_nil, or_false] at this
    rcases this with rfl | rfl | rfl | rfl | rfl | rfl | rfl | rfl <;> exact ⟨_, rfl, by decide, by decide⟩
  refine ⟨i, b, rfl, b0, by omega, fun v x y H4 s4 p4 l4 => ?_⟩
  have hx := lo_num' l4 b0
  have hy := lo_le l4 b0
  exact q v x y H4 (((k1.trans (Kp.of s2)).trans k3).trans (Kp.of s4)) (w3.to s4) p4 ⟨by omega, l4.1, by omega, l4.2.1⟩
theorem scTrim : FnScope ["_law_some", "_law_found"] ["_law_some"] (defScope sTrim) := ⟨rfl, rfl, rfl, by decide +kernel, rfl, by decide +kernel, by decide +kernel⟩
theorem ok_trim (D : Def K mg "_law_trim" sTrim ["_law_some"]) (nb : Nb mg) : Cal P w K mg base "_law_trim" 1 ["_law_some"] spTrimI := by
  refine D.ok scTrim (fun vs H Q E h => ?_) (fun f cdv A out s H vs Q E hr h => ?_)
  · obtain ⟨p, l, rfl, _⟩ := h; rfl
  obtain ⟨p, l, rfl, hp, hl, q⟩ := h
  refine ⟨_, pss_cons (ps_set (i := 1) scTrim.nd rfl (Or.inl rfl) (pe_callTy (T := "list") call_list_of (by rfl) nb.lst (by decide +kernel) (pa_cons (pv 0) pa_nil)))
    (pss_cons (ps_while PassesOwn.never (PW.pt (pw_and (pt_cmpR (op_neD hr.units) (pv 1) (pe_lst pa_nil) (nomark _)) (pw_and1
        (pt_cmpR op_eq (pe_ix ix_list (pv 1) (pe_un un_neg pe_int) (fun _ _ => rfl)) pe_int (nomark _)))))
      (pss_one (ps_expr (pe_bm0 PySem.F.plainAttrs_list PySem.F.slot_list_pop PySem.F.type_list_pop mt_pop (pv 1)))))
    (pss_one (ps_ret (pe_callTy (T := "tuple") call_tuple_of (by rfl) nb.tup (by decide +kernel) (pa_cons (pv 1) pa_nil))))), ?_⟩
  walk_at "rd"
  have hp2 : SqL K H p (l.map V.int) ∨ SqT K H p (l.map V.int) := hp.elim (fun h => .inl (SqL.of h)) fun h => .inr (SqT.of h)
  refine ⟨.ref p, rfl, p, l.map V.int, rfl, hp2, fun L nL => ?_⟩
  have hz0 : ∀ (i : Nat) a, l.length ≤ i → l[i]? = some a → (a == 0) = true := fun i a hi ea => by
    rw [List.getElem?_eq_none hi] at ea
    cases ea
  refine ⟨fun m σ H' => m ≤ l.length ∧ (∀ (i : Nat) a, m ≤ i → l[i]? = some a → (a == 0) = true) ∧ σ = [some (.ref p), some (.ref L)] ∧ Same H H' ∧ H' L = some (.lst ((l.take m).map V.int)), ⟨l.length, Nat.le_refl _, hz0, rfl, same_new nL, by rw [upd_same, List.take_length]⟩, ?_⟩
  rintro m σ H1 ⟨hm, hz, rfl, s1, hL⟩
  refine ⟨.ref L, rfl, sz (by decide), fun t nt => ?_⟩
  have s2 := same_new (o := .lst []) nt
  have nd : ∀ ns : List Int, ∀ d ∈ ns.map PyData.int, Nice 0 d := fun ns d hd => by
    obtain ⟨i, _, rfl⟩ := List.mem_map.mp hd
    exact nice_int i
  refine ⟨.list ((l.take m).map PyData.int), .list [], .lst (SqL.of (s2 _ _ hL)) ((da_ints 0 _ _).dp (canAll fun d h => (nd _ d h).1)), .lst (SqL.of upd_same) .nil, (nice_lst (nd _)).shaped (by decide), by decide, _, rfl, ?_⟩
  cases m with
  | zero =>
    refine iteF ⟨.ref L, rfl, L, _, rfl, .inl ⟨SqL.of (s2 _ _ hL), fun t2 nt2 => ?_⟩⟩
    refine q _ _ ((s1.trans s2).trans (same_new nt2)) ⟨t2, rfl, ?_⟩
    rw [upd_same, show trimI l = l.take 0 from trimBy_take _ l 0 (Nat.zero_le _) hz (.inl rfl)]
  | succ j =>
    have hj : j < l.length := by omega
    have et : l.take (j + 1) = l.take j ++ [l[j]] := by rw [List.take_add_one, List.getElem?_eq_getElem hj]; rfl
    have ne : (!PyData.eqv (.list ((l.take (j + 1)).map PyData.int)) (.list [])) = true := by
      rw [et]
      cases l.take j <;> simp [PyData.eqv, PyData.eqvAll]
    rw [ne]
    refine iteT ⟨.ref L, rfl, 1, rfl, L, _, -1, .int l[j], rfl, rfl, SqL.of (s2 _ _ hL), ?_, rfl, _, rfl, ?_⟩
    · rw [et, List.map_append]
      exact atI_last _ _
    rw [dec_int]
    cases z : (l[j] == 0) with
    | false =>
      refine iteF ⟨.ref L, rfl, L, _, rfl, .inl ⟨SqL.of (s2 _ _ hL), fun t2 nt2 => ?_⟩⟩
      refine q _ _ ((s1.trans s2).trans (same_new nt2)) ⟨t2, rfl, ?_⟩
      rw [upd_same, show trimI l = l.take (j + 1) from trimBy_take _ l (j + 1) hm hz (.inr ⟨l[j], List.getElem?_eq_getElem hj, z⟩)]
    | true =>
      refine iteT ⟨fun σ' H' => σ' = [some (.ref p), some (.ref L)] ∧ Same H H' ∧ H' L = some (.lst ((l.take j).map V.int)), fun σ' H' h => ⟨j, by omega, by omega, fun i e hi he => by
        rcases Nat.lt_or_eq_of_le hi with y | y
        · exact hz i e y he
        · subst y; rw [List.getElem?_eq_getElem hj] at he; cases he; exact z, h.1, h.2.1, h.2.2⟩, .ref L, rfl, .inl ⟨rfl, _, SqL.of (s2 _ _ hL)⟩, ?_⟩
      refine ⟨L, (l.take (j + 1)).map V.int, .int l[j], rfl, rfl, s2 _ _ hL, ?_, rfl, same_upd (s1.trans s2) nL, ?_⟩
      · exact getLast_get (by rw [et, List.map_append, List.map_cons, List.map_nil, List.getLast?_concat])
      · rw [upd_same, et, List.map_append, List.map_cons, List.map_nil, List.dropLast_concat]
theorem scLine : FnScope ["_law_well_here", "_law_few", "_law_found", "_law_spot"] ["_law_well_here", "_law_few"] (defScope sLine) := ⟨rfl, rfl, rfl, by decide +kernel, rfl, by decide +kernel, by decide +kernel⟩
theorem ok_line (D : Def K mg "_law_line" sLine ["_law_well_here", "_law_few"]) (nb : Nb mg) (c1 : Cal P w K mg base "_law_draw" 1 ["_law_well_here", "_law_few"] spDraw)
    (c2 : Cal P w K mg base "_law_small" 2 ["_law_well_here"] spInt) (c3 : Cal P w K mg base "_law_trim" 1 ["_law_some"] spTrimI) : Cal P w K mg base "_law_line" 3 ["_law_well_here", "_law_few"] spRowM := by
  refine D.ok scLine (fun vs H Q E h => ?_) (fun f cdv A out s H vs Q E hr h => ?_)
  · obtain ⟨a, n, rfl, _⟩ := h; rfl
  obtain ⟨a, n, rfl, hw, n0, n1, q⟩ := h
  refine ⟨_, pss_cons (ps_set (i := 2) scLine.nd rfl (Or.inl rfl) (pe_lst pa_nil))
    (pss_cons (ps_for PassesOwn.never rfl (pi_range1 (by rfl) nb.rng (pa_cons (pe_cal c1 hr (by decide) (by rfl) (pa_cons (pv 0) (pa_cons (pe_op op_add (pv 1) pe_int) pa_nil))) pa_nil))
        (pg_name (i := 3) scLine.nd rfl (Or.inl rfl))
        (pss_one (ps_expr (pe_bm PySem.F.plainAttrs_list PySem.F.slot_list_append PySem.F.type_list_append mt_append (pv 2) (pa_cons (pe_cal c2 hr (by decide) (by rfl) (pa_cons (pv 0) pa_nil)) pa_nil)))))
    (pss_one (ps_ret (pe_cal c3 hr (by decide) (by rfl) (pa_cons (pv 2) pa_nil))))), ?_⟩
  walk_at "rd"
  refine ⟨sz (by decide), fun L nL => ?_⟩
  have La : L ≠ a := hw.ne nL
  have w0 := we_new (o := .lst []) hw nL
  have k0 : Kp a H (upd H L (.lst [])) := kp_new nL
  refine ⟨.ref a, rfl, .int n, rfl, n, 1, rfl, rfl, a, _, rfl, w0, by omega, by omega, fun d H1 d0 d1 k1 w1 => ?_⟩
  refine ⟨d, rfl, by omega, by omega, for_rng (lo := 0) (n := d.toNat) (fun i σ H' => ∃ (x3 : Option V) (ns : List Int), σ = [some (.ref a), some (.int n), some (.ref L), x3] ∧ Kp a H H' ∧ We a H' ∧ H' L = some (.lst (ns.map V.int)) ∧ ns.length = i ∧ ∀ c ∈ ns, c.natAbs ≤ 1000000) ?_ ?_ ?_⟩
  · exact ⟨none, [], rfl, k0.trans k1, w1, k1 _ _ La upd_same, rfl, fun c hc => by cases hc⟩
  · rintro i σ H2 hi ⟨x3, ns, rfl, k2, w2, e2, l2, b2⟩
    walk_at "rd"
    refine ⟨.ref L, rfl, .inl ⟨rfl, _, SqL.of e2⟩, .ref a, rfl, a, rfl, w2, fun j H3 jb k3 w3 => ⟨L, ns.map V.int, .int j, rfl, rfl, k3 _ _ La e2, ?_, ?_⟩⟩
    · rw [List.length_map]; exact lt_line (by omega)
    · have w4 : We a (upd H3 L (.lst (ns.map V.int ++ [.int j]))) := by obtain ⟨x, y, z, e⟩ := w3; exact ⟨x, y, z, by rw [upd_ne La.symm]; exact e⟩
      exact ⟨some (.int (0 + (i : Int))), ns ++ [j], rfl, kp_upd (k2.trans k3) nL, w4, by rw [upd_same, List.map_append]; rfl, by simp [l2], fun c hc => by
        rcases List.mem_append.mp hc with hc | hc
        · exact b2 c hc
        · rw [List.mem_singleton.mp hc]; exact jb⟩
  · rintro σ H2 ⟨x3, ns, rfl, k2, w2, e2, l2, b2⟩
    refine ⟨.ref L, rfl, L, ns, rfl, .inl e2, by omega, fun v H3 s3 r3 => q v (trimI ns) H3 (k2.trans (Kp.of s3)) (w2.to s3) r3 (okR_trim _) ?_ fun c hc => b2 c (trimBy_mem _ _ hc)⟩
    have : (trimI ns).length ≤ ns.length := trimBy_len _ ns
    omega
end
end K02

set_option Elab.async false
set_option linter.all false
set_option maxRecDepth 100000
set_option maxHeartbeats 4000000
local macro_rules | `(tactic| walk_at "rd") => `(tactic| dsimp only [Evl.tCut, L2.tSeq, L2.tNext, L2.tRet, L2.tRetN, L2.tAsg, L2.gName, L2.tIfS, L2.tDrop, L2.tCons, L2.tNil, L2.tC, L2.tVar, L2.tCB, L2.tAndV, L2.tOrV, L2.tNotV, L2.tB, L2.tTest, L2.tOp, L2.tUn, L2.tNot, L2.tAnd, L2.tOr, L2.tIf, L2.tCall, L2.tTup, L2.tLst, L2.tNotT, L2.tYes, L2.gTup, L2.gCons, L2.gNil, L2.gSub, L2.tBM0, L2.tBM, L2.tWhile, L2.tFor, L2.iRng1, L2.iRng2, L2.tAugS, Tw.iEnumT, L2.tCKw, L2.tAug, L2.ipI, RT.iRevA, L2.tPar, L2.tPar3, L2.tSl, L2.tNoPart, L2.tPart, Tw.tRevT])
namespace K02
open PySem PySem.Spec PyProof.Rows L2 Tw
theorem seqT {K : PySem.W.Frag} {H H' : Hp} {a : Addr} {xs : List V} (e : Same H H') (h : SqT K H a xs) : SqT K H' a xs := by
  rcases h with (h | ⟨o, h⟩) | h
  · exact .inl (.inl (e _ _ h))
  · exact .inl (.inr ⟨o, e _ _ h⟩)
  · exact .inr h
def rLn (K : PySem.W.Frag) : List V → Hp → VK → Prop := fun xs H Q => ∃ p ys, xs = [.ref p] ∧ (SqL K H p ys ∨ SqT K H p ys) ∧ Q (.int ys.length) H
theorem wipeJ (σ : L2.St) (j : Nat) (x : Option V) : wipe ((wipe σ [j]).set j x) [j] = wipe σ [j] := by
  show ((σ.set j none).set j x).set j none = σ.set j none
  rw [List.set_set, List.set_set]
def SB (b : Nat) (r : List Int) : Prop := ∀ c ∈ r, c.natAbs ≤ b
theorem sb_get {b : Nat} {r : List Int} (h : SB b r) (k : Nat) : (r.getD k 0).natAbs ≤ b := by
  rw [List.getD_eq_getElem?_getD]
  cases e : r[k]? with
  | none => simp
  | some x => exact h x (List.mem_of_getElem? e)
theorem sb_trim {b : Nat} {r : List Int} (h : SB b r) : SB b (trimI r) := fun c hc => h c (trimBy_mem _ _ hc)
theorem flat_one (k : Nat) (x : V) : (List.replicate k [x]).flatten = List.replicate k x := by
  induction k with
  | zero => rfl
  | succ k ih => rw [List.replicate_succ, List.flatten_cons, ih, List.replicate_succ]; rfl
theorem getD_map_range {α : Type} (f : Nat → α) (d : α) (n k : Nat) (z : n ≤ k → f k = d) : ((List.range n).map f).getD k d = f k := by
  rw [List.getD_eq_getElem?_getD]
  rcases Nat.lt_or_ge k n with c | c
  · rw [List.getElem?_eq_getElem (by rw [List.length_map, List.length_range]; exact c), List.getElem_map, List.getElem_range]
    rfl
  · rw [List.getElem?_eq_none (by rw [List.length_map, List.length_range]; exact c), z c]
    rfl
theorem map_set' (l : List Int) (k : Nat) (c : Int) : (l.map V.int).set k (V.int c) = (l.set k c).map V.int := by rw [List.map_set]
theorem g_map (c : Int) (r : List Int) (k : Nat) : g (r.map fun x => c * x) k = c * g r k := by
  rcases Nat.lt_or_ge k r.length with h | h
  · rw [g_some (by rw [List.length_map]; exact h), g_some h, List.getElem_map]
  · rw [g_none (by rw [List.length_map]; exact h), g_none h, Int.mul_zero]
/-- the last of a product -/
theorem cv_top {f h : Nat → Int} {n m : Nat} (zf : ∀ i, n < i → f i = 0) (zh : ∀ i, m < i → h i = 0) : cv f h (n + m) = f n * h m := by
  unfold cv
  have e : S (n + m + 1) (fun i => f i * h (n + m - i)) = S (n + 1) (fun i => f i * h (n + m - i)) := S_more (by omega) fun i hi => by rw [zf i (by omega), Int.zero_mul]
  rw [e, S, S_ext (h := fun _ => 0) n fun i hi => by rw [zh _ (by omega), Int.mul_zero], S_zero, Int.zero_add]
  congr 2
  omega
theorem okR_last {r : List Int} (h : okR r) (n : r ≠ []) : g r (r.length - 1) ≠ 0 := by
  have l : 0 < r.length := List.length_pos_iff.mpr n
  have e : r.getLast? = some r[r.length - 1] := by rw [List.getLast?_eq_getElem?, List.getElem?_eq_getElem (by omega)]
  rw [g_some (by omega)]
  exact h _ e
theorem okR_prod {a b l : List Int} (ha : okR a) (hb : okR b) (na : a ≠ []) (nb : b ≠ []) (ll : l.length = a.length + b.length - 1) (cl : ∀ k, g l k = cv (g b) (g a) k) : okR l := fun c hc => by
  have la : 0 < a.length := List.length_pos_iff.mpr na
  have lb : 0 < b.length := List.length_pos_iff.mpr nb
  rw [List.getLast?_eq_getElem?] at hc
  have e : g l (l.length - 1) = c := by
    unfold g
    rw [List.getD_eq_getElem?_getD, hc]
    rfl
  rw [cl, show l.length - 1 = (b.length - 1) + (a.length - 1) from by omega, cv_top (fun i hi => g_none (by omega)) (fun i hi => g_none (by omega))] at e
  rw [← e]
  exact Int.mul_ne_zero (okR_last hb nb) (okR_last ha na)
theorem g_app0 (r : List Int) (n k : Nat) : g (r ++ List.replicate n 0) k = g r k := by
  rcases Nat.lt_or_ge k r.length with c | c
  · unfold g
    rw [List.getD_eq_getElem?_getD, List.getD_eq_getElem?_getD, List.getElem?_append_left c]
  · rw [g_none c]
    unfold g
    rw [List.getD_eq_getElem?_getD, List.getElem?_append_right c, List.getElem?_replicate]
    split <;> rfl
/-- known by numbers alone how long it is -/
theorem len_of {t : List Int} {n : Nat} (h : okR t) (z : ∀ k, n ≤ k → g t k = 0) : t.length ≤ n := by
  rcases Nat.lt_or_ge n t.length with c | c
  · have ne : t ≠ [] := fun e => by rw [e] at c; simp at c
    exact absurd (z (t.length - 1) (by omega)) (okR_last h ne)
  · exact c
def CM (r s : List Int) : Prop := ∀ c ∈ r, ∀ d ∈ s, c.natAbs < 2 ^ 64 ∨ d.natAbs < 2 ^ 64
theorem CM.get {r s : List Int} (h : CM r s) {i j : Nat} (hi : i < r.length) (hj : j < s.length) : CMul r[i] s[j] := (h _ (List.getElem_mem hi) _ (List.getElem_mem hj)).elim (fun x => .inl ⟨by omega, by omega⟩) fun x => .inr ⟨by omega, by omega⟩
theorem CM.symm {r s : List Int} (h : CM r s) : CM s r := fun c hc d hd => (h d hd c hc).symm
def spLSum : Sp := fun vs H Q _ => ∃ u v r s, vs = [u, v] ∧ Ro H u r ∧ Ro H v s ∧ r.length ≤ 100 ∧ s.length ≤ 100 ∧ ∀ z t H', Same H H' → Ro H' z t → okR t → (∀ k, g t k = g r k + g s k) → Q z H'
def spLScaled : Sp := fun vs H Q _ => ∃ u r c, vs = [u, .int c] ∧ Ro H u r ∧ r.length ≤ 100 ∧ c.natAbs < 2 ^ 64 ∧ ∀ z t H', Same H H' → Ro H' z t → okR t → (∀ k, g t k = c * g r k) → Q z H'
def spProd : Sp := fun vs H Q _ => ∃ u v r s, vs = [u, v] ∧ Ro H u r ∧ Ro H v s ∧ r.length ≤ 100 ∧ s.length ≤ 100 ∧ CM r s ∧ ∀ z t H', Same H H' → Ro H' z t → okR t → (∀ k, g t k = cv (g r) (g s) k) → Q z H'
def spSlope : Sp := fun vs H Q _ => ∃ u r, vs = [u] ∧ Ro H u r ∧ okR r ∧ r.length ≤ 100 ∧ ∀ z t H', Same H H' → Ro H' z t → okR t → (∀ k, g t k = ((k + 1 : Nat) : Int) * g r (k + 1)) → Q z H'
section
variable {P : Program} {w : World} {K : PySem.W.Frag} {mg : Str → Option Value} {base : Heap}
theorem scSum : FnScope ["_law_one", "_law_two", "_law_few", "_law_far", "_law_rest", "_law_at"] ["_law_one", "_law_two"] (defScope sSum) := ⟨rfl, rfl, rfl, by decide +kernel, rfl, by decide +kernel, by decide +kernel⟩
theorem ok_sum (D : Def K mg "_law_sum" sSum ["_law_one", "_law_two"]) (nb : Nb mg) (c1 : Cal P w K mg base "_law_trim" 1 ["_law_some"] spTrimI) : Cal P w K mg base "_law_sum" 2 ["_law_one", "_law_two"] spLSum := by
  refine D.ok scSum (fun vs H Q E h => ?_) (fun f cdv A out s H vs Q E hr h => ?_)
  · obtain ⟨u, v, r, s, rfl, _⟩ := h; rfl
  obtain ⟨u, v, r, t, rfl, hu, hv, lr, lt, q⟩ := h
  refine ⟨_, pss_cons (ps_set (i := 2) scSum.nd rfl (Or.inl rfl) (pe_callB (id := "max") (call_max2 rfl) (by rfl) nb.max (by decide +kernel) (pa_cons (pe_callB (id := "len") (r := rLn K) call_len_seq (by rfl) nb.len PySem.boot_len (pa_cons (pv 0) pa_nil)) (pa_cons (pe_callB (id := "len") (r := rLn K) call_len_seq (by rfl) nb.len PySem.boot_len (pa_cons (pv 1) pa_nil)) pa_nil))))
    (pss_cons (ps_set (i := 3) scSum.nd rfl (Or.inr rfl) (pe_op op_cat (pe_callTy (T := "list") call_list_of (by rfl) nb.lst (by decide +kernel) (pa_cons (pv 0) pa_nil)) (pe_op op_rep (pe_lst (pa_cons pe_int pa_nil)) (pe_op op_sub (pv 2) (pe_callB (id := "len") (r := rLn K) call_len_seq (by rfl) nb.len PySem.boot_len (pa_cons (pv 0) pa_nil))))))
    (pss_cons (ps_set (i := 4) scSum.nd rfl (Or.inr rfl) (pe_op op_cat (pe_callTy (T := "list") call_list_of (by rfl) nb.lst (by decide +kernel) (pa_cons (pv 1) pa_nil)) (pe_op op_rep (pe_lst (pa_cons pe_int pa_nil)) (pe_op op_sub (pv 2) (pe_callB (id := "len") (r := rLn K) call_len_seq (by rfl) nb.len PySem.boot_len (pa_cons (pv 1) pa_nil))))))
    (pss_one (ps_ret (pe_cal c1 hr (by decide) (by rfl) (pa_cons
        (pe_lc (own := [("_law_at", 5)]) (g := gName 5) (tt := tYes) rfl scSum.nd (pi_range1 (by rfl) nb.rng (pa_cons (pv 2) pa_nil)) (blkOk_by (N := ["_law_one", "_law_two", "_law_few", "_law_far", "_law_rest", "_law_at"]) (sc := defScope sSum) (by decide +kernel))
            (fun _ _ _ _ _ => pg_name (i := 5) scSum.nd rfl (Or.inl rfl)) (fun _ _ _ _ _ => pts_nil)
            (fun _ _ _ _ _ => pe_op op_add (pe_ix (r := rIxL K) ix_list (pv 3) (pv 5) (fun _ _ => rfl)) (pe_ix (r := rIxL K) ix_list (pv 4) (pv 5) (fun _ _ => rfl)))) pa_nil)))))), ?_⟩
  walk_at "rd"
  obtain ⟨pu, rfl, eu⟩ := hu
  obtain ⟨pw, rfl, ev⟩ := hv
  refine ⟨.ref pu, rfl, pu, _, rfl, .inr (SqT.of eu), .ref pw, rfl, pw, _, rfl, .inr (SqT.of ev), _, _, rfl, ?_⟩
  have em : (if ((t.map V.int).length : Int) > ((r.map V.int).length : Int) then ((t.map V.int).length : Int) else ((r.map V.int).length : Int)) = ((max r.length t.length : Nat) : Int) := by
    rw [List.length_map, List.length_map]
    split <;> omega
  rw [em]
  generalize hN : max r.length t.length = N
  have hrN : r.length ≤ N := by omega
  have htN : t.length ≤ N := by omega
  have hN100 : N ≤ 100 := by omega
  have pad : ∀ (a : List Int), a.length ≤ N → a.map V.int ++ (List.replicate ((N : Int) - ((a.map V.int).length : Int)).toNat [V.int 0]).flatten = (a ++ List.replicate (N - a.length) 0).map V.int := fun a ha => by
    rw [flat_one, List.map_append, List.map_replicate, List.length_map]
    congr 2
    omega
  refine ⟨.ref pu, rfl, pu, _, rfl, .inr (SqT.of eu), fun L1 n1 => ?_⟩
  have s1 := same_new (o := .lst (r.map V.int)) n1
  have e1 : upd H L1 (.lst (r.map V.int)) L1 = some (.lst (r.map V.int)) := upd_same
  generalize upd H L1 (.lst (r.map V.int)) = H1 at s1 e1 ⊢
  refine ⟨sz (by simp), fun L0 n0 => ?_⟩
  have s2 := same_new (o := .lst [.int 0]) n0
  have s12 := s1.trans s2
  refine ⟨.int N, rfl, .ref pu, rfl, pu, _, rfl, .inr (SqT.of (s12 _ _ eu)), _, _, rfl, rfl, L0, _, _, rfl, rfl, upd_same, by rw [List.length_map]; omega, by rw [List.length_map]; omega, ?_, fun p np => ?_⟩
  · exact sz (by rw [List.length_map]; simp; omega)
  have s3 := same_new (o := .lst (List.replicate ((N : Int) - ((r.map V.int).length : Int)).toNat [V.int 0]).flatten) np
  have s23 := s2.trans s3
  refine ⟨L1, p, _, _, rfl, rfl, s23 _ _ e1, upd_same, ?_, fun F nF => ?_⟩
  · have h := congrArg List.length (pad r hrN)
    simp only [List.length_append, List.length_map, List.length_replicate] at h
    exact sz (by simp only [List.length_map] at h ⊢; omega)
  have s4 := same_new (o := .lst (r.map V.int ++ (List.replicate ((N : Int) - ((r.map V.int).length : Int)).toNat [V.int 0]).flatten)) nF
  have eF : upd (upd (upd H1 L0 (.lst [.int 0])) p (.lst (List.replicate ((N : Int) - ((r.map V.int).length : Int)).toNat [V.int 0]).flatten)) F (.lst (r.map V.int ++ (List.replicate ((N : Int) - ((r.map V.int).length : Int)).toNat [V.int 0]).flatten)) F = some (.lst ((r ++ List.replicate (N - r.length) 0).map V.int)) := by rw [upd_same, pad r hrN]
  have sF := s1.trans (s23.trans s4)
  generalize upd (upd (upd H1 L0 (.lst [.int 0])) p (.lst (List.replicate ((N : Int) - ((r.map V.int).length : Int)).toNat [V.int 0]).flatten)) F (.lst (r.map V.int ++ (List.replicate ((N : Int) - ((r.map V.int).length : Int)).toNat [V.int 0]).flatten)) = H2 at sF eF ⊢
  clear s1 s2 s3 s4 s12 s23 n1 n0 np nF e1
  refine ⟨.ref pw, rfl, pw, _, rfl, .inr (SqT.of (sF _ _ ev)), fun L1 n1 => ?_⟩
  have s1 := same_new (o := .lst (t.map V.int)) n1
  have e1 : upd H2 L1 (.lst (t.map V.int)) L1 = some (.lst (t.map V.int)) := upd_same
  generalize upd H2 L1 (.lst (t.map V.int)) = H3 at s1 e1 ⊢
  refine ⟨sz (by simp), fun L0 n0 => ?_⟩
  have s2 := same_new (o := .lst [.int 0]) n0
  have s12 := s1.trans s2
  refine ⟨.int N, rfl, .ref pw, rfl, pw, _, rfl, .inr (SqT.of (s12 _ _ (sF _ _ ev))), _, _, rfl, rfl, L0, _, _, rfl, rfl, upd_same, by rw [List.length_map]; omega, by rw [List.length_map]; omega, ?_, fun p np => ?_⟩
  · exact sz (by rw [List.length_map]; simp; omega)
  have s3 := same_new (o := .lst (List.replicate ((N : Int) - ((t.map V.int).length : Int)).toNat [V.int 0]).flatten) np
  have s23 := s2.trans s3
  refine ⟨L1, p, _, _, rfl, rfl, s23 _ _ e1, upd_same, ?_, fun G nG => ?_⟩
  · have h := congrArg List.length (pad t htN)
    simp only [List.length_append, List.length_map, List.length_replicate] at h
    exact sz (by simp only [List.length_map] at h ⊢; omega)
  have s4 := same_new (o := .lst (t.map V.int ++ (List.replicate ((N : Int) - ((t.map V.int).length : Int)).toNat [V.int 0]).flatten)) nG
  have eG : upd (upd (upd H3 L0 (.lst [.int 0])) p (.lst (List.replicate ((N : Int) - ((t.map V.int).length : Int)).toNat [V.int 0]).flatten)) G (.lst (t.map V.int ++ (List.replicate ((N : Int) - ((t.map V.int).length : Int)).toNat [V.int 0]).flatten)) G = some (.lst ((t ++ List.replicate (N - t.length) 0).map V.int)) := by rw [upd_same, pad t htN]
  have s24 := s1.trans (s23.trans s4)
  generalize upd (upd (upd H3 L0 (.lst [.int 0])) p (.lst (List.replicate ((N : Int) - ((t.map V.int).length : Int)).toNat [V.int 0]).flatten)) G (.lst (t.map V.int ++ (List.replicate ((N : Int) - ((t.map V.int).length : Int)).toNat [V.int 0]).flatten)) = H4 at s24 eG ⊢
  have eF4 := s24 _ _ eF
  have sG := sF.trans s24
  have lf : ∀ a : List Int, a.length ≤ N → ∀ k, k < N → ((a ++ List.replicate (N - a.length) 0).map V.int)[k]? = some (.int (g a k)) := fun a ha k hk => by
    have hl : k < (a ++ List.replicate (N - a.length) (0 : Int)).length := by rw [List.length_append, List.length_replicate]; omega
    rw [List.getElem?_map, List.getElem?_eq_getElem hl, ← g_some hl, g_app0]
    rfl
  refine lc_rng (n := N) (fun k => V.int (g r k + g t k)) (fun R hR => ⟨.int N, rfl, (N : Int), rfl, by omega, by omega, hR⟩) (by omega) (fun x => wipeJ _ _ _) (fun k H5 hk s5 R kR => ?_) fun L H5 s5 nL eL => ?_
  · walk_at "rd"
    rw [Int.zero_add]
    exact ⟨.ref F, rfl, .int k, rfl, F, _, k, _, rfl, rfl, SqL.of (s5 _ _ eF4), atI_nat (lf r hrN k hk), .ref G, rfl, .int k, rfl, G, _, k, _, rfl, rfl, SqL.of (s5 _ _ eG), atI_nat (lf t htN k hk), _, _, rfl, rfl, kR _ (Same.refl _)⟩
  · refine ⟨L, (List.range N).map (fun k => g r k + g t k), rfl, .inl (by rw [List.map_map]; exact eL), by rw [List.length_map, List.length_range]; omega, fun z H6 s6 r6 => q z _ H6 (sG.trans (s5.trans s6)) r6 (okR_trim _) fun k => ?_⟩
    rw [g_trim]
    exact getD_map_range (fun k => g r k + g t k) 0 N k (fun h => by
      show g r k + g t k = 0
      rw [g_none (by omega), g_none (by omega)]
      rfl)
theorem scLScaled : FnScope ["_law_line_here", "_law_by", "_law_each"] ["_law_line_here", "_law_by"] (defScope sLScaled) := ⟨rfl, rfl, rfl, by decide +kernel, rfl, by decide +kernel, by decide +kernel⟩
theorem ok_lscaled (D : Def K mg "_law_scaled" sLScaled ["_law_line_here", "_law_by"]) (c1 : Cal P w K mg base "_law_trim" 1 ["_law_some"] spTrimI) : Cal P w K mg base "_law_scaled" 2 ["_law_line_here", "_law_by"] spLScaled := by
  refine D.ok scLScaled (fun vs H Q E h => ?_) (fun f cdv A out s H vs Q E hr h => ?_)
  · obtain ⟨u, r, c, rfl, _⟩ := h; rfl
  obtain ⟨u, r, c, rfl, hu, lr, c64, q⟩ := h
  refine ⟨_, pss_one (ps_ret (pe_cal c1 hr (by decide) (by rfl) (pa_cons
      (pe_lc (own := [("_law_each", 2)]) (g := gName 2) (tt := tYes) rfl scLScaled.nd (pi_tup (pv 0)) (blkOk_by (N := ["_law_line_here", "_law_by", "_law_each"]) (sc := defScope sLScaled) (by decide +kernel))
        (fun _ _ _ _ _ => pg_name (i := 2) scLScaled.nd rfl (Or.inl rfl)) (fun _ _ _ _ _ => pts_nil) (fun _ _ _ _ _ => pe_op op_mul (pv 1) (pv 2))) pa_nil))), ?_⟩
  walk_at "rd"
  obtain ⟨pu, rfl, eu⟩ := hu
  refine lc_relT (S := fun _ v k => v = V.int k) (R := fun _ v k => v = V.int k) (g := fun x => c * x) (rs := r) (p := pu) (xs := r.map V.int) (stable_eq _) (stable_eq _) rfl eu (RelA.of_map _) (by omega) (fun x => wipeJ _ _ _) (fun x d H1 hd s1 rx Z hZ => ?_) fun L ys H1 s1 nL eL ry => ?_
  · subst rx
    exact ⟨.int c, rfl, .int d, rfl, _, _, rfl, rfl, .inl ⟨by omega, by omega⟩, hZ _ _ (Same.refl _) rfl⟩
  · have ey := RelA.eq_map ry
    refine ⟨L, _, rfl, .inl (by rw [eL, ey]), by rw [List.length_map]; omega, fun z H2 s2 r2 => q z _ H2 (s1.trans s2) r2 (okR_trim _) fun k => by rw [g_trim]; exact g_map c r k⟩
theorem scProd : FnScope ["_law_one", "_law_two", "_law_found", "_law_at", "_law_here", "_law_to", "_law_there"] ["_law_one", "_law_two"] (defScope sProd) := ⟨rfl, rfl, rfl, by decide +kernel, rfl, by decide +kernel, by decide +kernel⟩
theorem ok_prod (D : Def K mg "_law_product" sProd ["_law_one", "_law_two"]) (nb : Nb mg) (ne : mg "enumerate" = none) (c1 : Cal P w K mg base "_law_trim" 1 ["_law_some"] spTrimI) : Cal P w K mg base "_law_product" 2 ["_law_one", "_law_two"] spProd := by
  refine D.ok scProd (fun vs H Q E h => ?_) (fun f cdv A out s H vs Q E hr h => ?_)
  · obtain ⟨u, v, r, s, rfl, _⟩ := h; rfl
  obtain ⟨u, v, a, b, rfl, hu, hv, la, lb, cm, q⟩ := h
  refine ⟨_, pss_cons (ps_set (i := 2) scProd.nd rfl (Or.inl rfl) (pe_op op_rep (pe_lst (pa_cons pe_int pa_nil)) (pe_op op_add (pe_callB (id := "len") (r := rLn K) call_len_seq (by rfl) nb.len PySem.boot_len (pa_cons (pv 0) pa_nil)) (pe_callB (id := "len") (r := rLn K) call_len_seq (by rfl) nb.len PySem.boot_len (pa_cons (pv 1) pa_nil)))))
    (pss_cons (ps_for PassesOwn.never rfl (pi_enumT (by rfl) ne (pv 0)) (pg_tup rfl (pgs_cons (pg_name (i := 3) scProd.nd rfl (Or.inl rfl)) (pgs_cons (pg_name (i := 4) scProd.nd rfl (Or.inl rfl)) pgs_nil)))
      (pss_one (ps_for PassesOwn.never rfl (pi_enumT (by rfl) ne (pv 1)) (pg_tup rfl (pgs_cons (pg_name (i := 5) scProd.nd rfl (Or.inl rfl)) (pgs_cons (pg_name (i := 6) scProd.nd rfl (Or.inl rfl)) pgs_nil)))
        (pss_one (ps_asg (pe_op op_add (pe_ix ix_list (pv 2) (pe_op op_add (pv 3) (pv 5)) (fun _ _ => rfl)) (pe_op op_mul (pv 4) (pv 6)))
          (pg_sub (pv 2) (pe_op op_add (pv 3) (pv 5)) set_list))))))
    (pss_one (ps_ret (pe_cal c1 hr (by decide) (by rfl) (pa_cons (pv 2) pa_nil))))), ?_⟩
  walk_at "rd"
  obtain ⟨pa, rfl, ea⟩ := hu
  obtain ⟨pb, rfl, eb⟩ := hv
  refine ⟨sz (by simp), fun L0 nL0 => ?_⟩
  have s0 := same_new (o := .lst [.int 0]) nL0
  refine ⟨.ref pa, rfl, pa, _, rfl, .inr (SqT.of (s0 _ _ ea)), .ref pb, rfl, pb, _, rfl, .inr (SqT.of (s0 _ _ eb)), _, _, rfl, rfl, L0, _, _, rfl, rfl, upd_same, by rw [List.length_map]; omega, by rw [List.length_map, List.length_map]; omega, ?_, fun L nL => ?_⟩
  · have := sz (n := ((a.map V.int).length + (b.map V.int).length)) (by rw [List.length_map, List.length_map]; omega)
    show 1 * _ ≤ _
    rw [Nat.one_mul]
    omega
  have s1 := s0.trans (same_new (o := .lst (List.replicate ((((a.map V.int).length : Nat) : Int) + (((b.map V.int).length : Nat) : Int)).toNat [V.int 0]).flatten) nL)
  have nL' : H L = none := s0.free nL
  have eL : upd (upd H L0 (.lst [.int 0])) L (.lst (List.replicate ((((a.map V.int).length : Nat) : Int) + (((b.map V.int).length : Nat) : Int)).toNat [V.int 0]).flatten) L = some (.lst ((List.replicate (a.length + b.length) (0 : Int)).map V.int)) := by
    rw [upd_same, flat_one, List.map_replicate, List.length_map, List.length_map]
    congr 3
  generalize upd (upd H L0 (.lst [.int 0])) L _ = H1 at s1 eL ⊢
  refine ⟨.ref pa, rfl, pa, a.map V.int, rfl, SqT.of (s1 _ _ ea), for_enumT (xs := a.map V.int) (fun i σ H' => ∃ (x4 x5 x6 x7 : Option V) (l : List Int), σ = [some (.ref pa), some (.ref pb), some (.ref L), x4, x5, x6, x7] ∧ Same H H' ∧ H' L = some (.lst (l.map V.int)) ∧ l.length = a.length + b.length ∧ ∀ k, g l k = S i (fun j => if j ≤ k then g a j * g b (k - j) else 0)) ?_ ?_ ?_ ?_⟩
  · exact ⟨none, none, none, none, _, rfl, s1, eL, by simp, fun k => by
      unfold g
      rw [List.getD_eq_getElem?_getD, List.getElem?_replicate]
      split <;> rfl⟩
  · rintro i σ H' hi ⟨x4, x5, x6, x7, l, rfl, s', _⟩
    exact SqT.of (s' _ _ ea)
  · rintro i x p σ H' hx ⟨x4, x5, x6, x7, l, rfl, s', el, ll, cl⟩ np
    rw [List.getElem?_map] at hx
    cases ha : a[i]? with
    | none => rw [ha] at hx; cases hx
    | some c =>
    rw [ha] at hx
    cases hx
    obtain ⟨ia, ga⟩ := List.getElem?_eq_some_iff.mp ha
    have gac : g a i = c := by rw [g_some ia]; exact ga
    have s2 := s'.trans (same_new (o := .tup [.int (i : Nat), .int c]) np)
    have el2 : upd H' p (.tup [.int (i : Nat), .int c]) L = some (.lst (l.map V.int)) := by rw [upd_ne (ne_of_none el np)]; exact el
    refine ⟨p, _, rfl, SqT.of upd_same, rfl, _, _, rfl, _, _, rfl, rfl, ?_⟩
    generalize upd H' p (.tup [.int (i : Nat), .int c]) = H2 at s2 el2 ⊢
    refine ⟨.ref pb, rfl, pb, b.map V.int, rfl, SqT.of (s2 _ _ eb), for_enumT (xs := b.map V.int) (fun m σ H' => ∃ (x6 x7 : Option V) (l : List Int), σ = [some (.ref pa), some (.ref pb), some (.ref L), some (.int (i : Nat)), some (.int c), x6, x7] ∧ Same H H' ∧ H' L = some (.lst (l.map V.int)) ∧ l.length = a.length + b.length ∧ ∀ k, g l k = S i (fun j => if j ≤ k then g a j * g b (k - j) else 0) + (if i ≤ k ∧ k - i < m then g a i * g b (k - i) else 0)) ?_ ?_ ?_ ?_⟩
    · exact ⟨x6, x7, l, rfl, s2, el2, ll, fun k => by rw [cl k, if_neg (by omega), Int.add_zero]⟩
    · rintro m σ H' hm ⟨x6, x7, l, rfl, s', _⟩
      exact SqT.of (s' _ _ eb)
    · rintro m x p σ H' hx ⟨x6, x7, l, rfl, s', el, ll, cl⟩ np
      rw [List.getElem?_map] at hx
      cases hb : b[m]? with
      | none => rw [hb] at hx; cases hx
      | some d =>
      rw [hb] at hx
      cases hx
      obtain ⟨ib, gb⟩ := List.getElem?_eq_some_iff.mp hb
      have gbd : g b m = d := by rw [g_some ib]; exact gb
      have il : i + m < l.length := by omega
      have cmm := cm.get ia ib
      rw [ga, gb] at cmm
      have s2 := s'.trans (same_new (o := .tup [.int (m : Nat), .int d]) np)
      have el2 : upd H' p (.tup [.int (m : Nat), .int d]) L = some (.lst (l.map V.int)) := by rw [upd_ne (ne_of_none el np)]; exact el
      refine ⟨p, _, rfl, SqT.of upd_same, rfl, _, _, rfl, _, _, rfl, rfl, ?_⟩
      generalize upd H' p (.tup [.int (m : Nat), .int d]) = H2 at s2 el2 ⊢
      have im2 : (i : Int) + (m : Int) = ((i + m : Nat) : Int) := by omega
      have gl : (l.map V.int)[i + m]? = some (.int l[i + m]) := by rw [List.getElem?_map, List.getElem?_eq_getElem il]; rfl
      refine ⟨.ref L, rfl, .int (i : Nat), rfl, .int (m : Nat), rfl, _, _, rfl, rfl, ?_⟩
      walk_at "rd"
      rw [im2]
      refine ⟨L, _, _, _, rfl, rfl, SqL.of el2, atI_nat gl, .int c, rfl, .int d, rfl, _, _, rfl, rfl, cmm, _, _, rfl, rfl, .ref L, rfl, .int (i : Nat), rfl, .int (m : Nat), rfl, _, _, rfl, rfl, ?_⟩
      walk_at "rd"
      rw [im2]
      refine ⟨L, _, _, i + m, rfl, rfl, el2, Evl.ixN_nat (by rw [List.length_map]; exact il), some (.int (m : Nat)), some (.int d), l.set (i + m) (l[i + m] + c * d), rfl, same_upd s2 nL', by rw [upd_same, map_set'], by rw [List.length_set]; exact ll, fun k => ?_⟩
      rw [g_set il, cl k]
      by_cases e : k = i + m
      · subst e
        rw [if_pos rfl, if_pos (by omega), ← g_some il, cl (i + m), if_neg (by omega), show i + m - i = m from by omega, gac, gbd, Int.add_zero]
      · rw [if_neg e]
        congr 1
        by_cases e2 : i ≤ k ∧ k - i < m
        · rw [if_pos e2, if_pos (by omega)]
        · rw [if_neg e2, if_neg (by omega)]
    · rintro σ H' ⟨x6, x7, l, rfl, s', el, ll, cl⟩
      refine ⟨_, _, x6, x7, l, rfl, s', el, ll, fun k => ?_⟩
      rw [cl k, S, List.length_map]
      congr 1
      by_cases e : i ≤ k
      · rw [if_pos e]
        by_cases e2 : k - i < b.length
        · rw [if_pos ⟨e, e2⟩]
        · rw [if_neg (by omega), g_none (show b.length ≤ k - i by omega), Int.mul_zero]
      · rw [if_neg e, if_neg (by omega)]
  · rintro σ H' ⟨x4, x5, x6, x7, l, rfl, s', el, ll, cl⟩
    refine ⟨.ref L, rfl, L, l, rfl, .inl el, by omega, fun z H6 s6 r6 => q z _ H6 (s'.trans s6) r6 (okR_trim _) fun k => ?_⟩
    rw [g_trim, cl k, List.length_map]
    exact cv_loop (fun i hi => g_none hi) k
theorem scSlope : FnScope ["_law_line_here", "_law_at", "_law_each"] ["_law_line_here"] (defScope sSlope) := ⟨rfl, rfl, rfl, by decide +kernel, rfl, by decide +kernel, by decide +kernel⟩
theorem ok_slope (D : Def K mg "_law_slope" sSlope ["_law_line_here"]) (nb : Nb mg) (ne : mg "enumerate" = none) : Cal P w K mg base "_law_slope" 1 ["_law_line_here"] spSlope := by
  refine D.ok scSlope (fun vs H Q E h => ?_) (fun f cdv A out s H vs Q E hr h => ?_)
  · obtain ⟨u, r, rfl, _⟩ := h; rfl
  obtain ⟨u, r, rfl, hu, okr, lr, q⟩ := h
  refine ⟨_, pss_one (ps_ret (pe_callTy (T := "tuple") call_tuple_of (by rfl) nb.tup (by decide +kernel) (pa_cons (pe_lc (own := [("_law_at", 1), ("_law_each", 2)]) (g := gTup K 2 (gCons (gName 1) (gCons (gName 2) gNil))) (tt := _) rfl scSlope.nd (pi_enumT (by rfl) ne (pv 0)) (blkOk_by (N := ["_law_line_here", "_law_at", "_law_each"]) (sc := defScope sSlope) (by decide +kernel))
        (fun _ _ _ _ _ => pg_tup rfl (pgs_cons (pg_name (i := 1) scSlope.nd rfl (Or.inl rfl)) (pgs_cons (pg_name (i := 2) scSlope.nd rfl (Or.inl rfl)) pgs_nil))) (fun _ _ _ _ _ => pts_one (pt_cmpR op_gt (pv 1) pe_int (nomark _))) (fun _ _ _ _ _ => pe_op op_mul (pv 1) (pv 2))) pa_nil))), ?_⟩
  walk_at "rd"
  obtain ⟨pu, rfl, eu⟩ := hu
  refine ⟨.ref pu, rfl, pu, r.map V.int, rfl, SqT.of eu, fun L nL => lc_enumT (xs := r.map V.int) (fun m H' => Same H H' ∧ ∃ l : List Int, H' L = some (.lst (l.map V.int)) ∧ l.length = m - 1 ∧ ∀ i, i + 1 < m → g l i = ((i + 1 : Nat) : Int) * g r (i + 1)) ?_ ?_ ?_ ?_⟩
  · exact ⟨same_new nL, [], upd_same, rfl, fun i hi => (by omega)⟩
  · rintro i H' hi ⟨s', _⟩
    exact SqT.of (s' _ _ eu)
  · rintro i x t H' hx ⟨s', l, el, ll, cl⟩ nt
    rw [List.getElem?_map] at hx
    cases hb : r[i]? with
    | none => rw [hb] at hx; cases hx
    | some c =>
    rw [hb] at hx
    cases hx
    obtain ⟨ir, gr⟩ := List.getElem?_eq_some_iff.mp hb
    have grc : g r i = c := by rw [g_some ir]; exact gr
    have sp := same_new (o := .tup [.int (i : Nat), .int c]) nt
    have s2 := s'.trans sp
    have el2 := sp _ _ el
    refine ⟨t, _, rfl, SqT.of upd_same, rfl, _, _, rfl, _, _, rfl, rfl, ?_⟩
    generalize upd H' t (.tup [.int (i : Nat), .int c]) = H2 at s2 el2 ⊢
    refine ⟨rfl, .int (i : Nat), rfl, _, _, rfl, rfl, _, rfl, ?_⟩
    by_cases z : i = 0
    · subst z
      refine iteF ⟨s2, l, el2, by omega, fun i hi => by omega⟩
    · rw [show decide (((i : Nat) : Int) > 0) = true from decide_eq_true (by omega)]
      refine iteT ⟨.int (i : Nat), rfl, .int c, rfl, _, _, rfl, rfl, .inl ⟨by omega, by omega⟩, l.map V.int, el2, lt_line (by rw [List.length_map]; omega), same_upd s2 nL, l ++ [(i : Int) * c], by rw [upd_same, List.map_append]; rfl, by simp [ll]; omega, fun k hk => ?_⟩
      rcases Nat.lt_or_eq_of_le (Nat.le_of_lt_succ hk) with y | y
      · rw [← cl k y]
        unfold g
        rw [List.getD_eq_getElem?_getD, List.getD_eq_getElem?_getD, List.getElem?_append_left (by omega)]
      · have e : g (l ++ [(i : Int) * c]) k = (i : Int) * c := by
          unfold g
          rw [List.getD_eq_getElem?_getD, List.getElem?_append_right (by omega), show k - l.length = 0 from by omega]
          rfl
        rw [e, y, grc]
  · rintro H' ⟨s', l, el, ll, cl⟩
    rw [List.length_map] at ll cl
    have all : ∀ k, g l k = ((k + 1 : Nat) : Int) * g r (k + 1) := fun k => by
      rcases Nat.lt_or_ge (k + 1) r.length with c | c
      · exact cl k c
      · rw [g_none (show l.length ≤ k by omega), g_none c, Int.mul_zero]
    have okl : okR l := fun c hc => by
      have e1 := hc
      rw [List.getLast?_eq_getElem?] at hc
      have hl : l.length - 1 < l.length := (List.getElem?_eq_some_iff.mp hc).1
      have e : g l (l.length - 1) = c := by
        unfold g
        rw [List.getD_eq_getElem?_getD, hc]
        rfl
      rw [all] at e
      have ne : r ≠ [] := fun z => by rw [z] at ll; have ll2 : l.length = 0 := ll; omega
      have := okR_last okr ne
      rw [show l.length - 1 + 1 = r.length - 1 from by omega] at e
      rw [← e]
      have h1 : ((r.length - 1 : Nat) : Int) ≠ 0 := by omega
      exact Int.mul_ne_zero h1 this
    refine ⟨L, _, rfl, .inl ⟨SqL.of el, fun t nt => ?_⟩⟩
    exact q _ l _ (s'.trans (same_new nt)) ⟨t, rfl, upd_same⟩ okl all
end
end K02

set_option Elab.async false
set_option linter.all false
set_option maxRecDepth 100000
set_option maxHeartbeats 4000000
local macro_rules | `(tactic| walk_at "rd") => `(tactic| dsimp only [Evl.tCut, L2.tSeq, L2.tNext, L2.tRet, L2.tRetN, L2.tAsg, L2.gName, L2.tIfS, L2.tDrop, L2.tCons, L2.tNil, L2.tC, L2.tVar, L2.tCB, L2.tAndV, L2.tOrV, L2.tNotV, L2.tB, L2.tTest, L2.tOp, L2.tUn, L2.tNot, L2.tAnd, L2.tOr, L2.tIf, L2.tCall, L2.tTup, L2.tLst, L2.tNotT, L2.tYes, L2.gTup, L2.gCons, L2.gNil, L2.gSub, L2.tBM0, L2.tBM, L2.tWhile, L2.tFor, L2.iRng1, L2.iRng2, L2.tAugS, Tw.iEnumT, L2.tCKw, L2.tAug, L2.ipI, RT.iRevA, L2.tPar, L2.tPar3, L2.tSl, L2.tNoPart, L2.tPart, Tw.tRevT])
namespace K02
open PySem PySem.Spec PyProof.Rows L2 Tw
/-- a loop over a tuple, its body already read -/
theorem for_tup {K : PySem.W.Frag} {a : Addr} {xs : List V} {B : (L2.St → Hp → Prop) → V → L2.St → Hp → Prop} {nx : L2.St → Hp → Prop} {σ : L2.St} {H : Hp} (Pv : Nat → L2.St → Hp → Prop) (h0 : Pv 0 σ H)
    (hl : ∀ i σ' H', i ≤ xs.length → Pv i σ' H' → SqT K H' a xs)
    (hs : ∀ (i : Nat) x σ' H', xs[i]? = some x → Pv i σ' H' → B (Pv (i + 1)) x σ' H') (hd : ∀ σ' H', Pv xs.length σ' H' → nx σ' H') :
    ∃ W : Nat → Nat → L2.St → Hp → Prop, (∃ m, W 0 m σ H) ∧ ∀ i m σ H, W i m σ H →
      ((Itt K a).stop i H ∧ nx σ H) ∨ ((Itt K a).go i H ∧ ∃ N : L2.St → Hp → Prop, (∀ σ' H', N σ' H' → ∃ m', m' < m ∧ W (i + 1) m' σ' H') ∧ ∀ x H', (Itt K a).yld i H x H' → B N x σ H') := by
  refine ⟨fun i m σ H => m = xs.length - i ∧ i ≤ xs.length ∧ Pv i σ H, ⟨xs.length, by simp, Nat.zero_le _, h0⟩, ?_⟩
  rintro i m σ' H' ⟨rfl, hi, p⟩
  have ql := hl i σ' H' hi p
  by_cases c : i < xs.length
  · refine Or.inr ⟨⟨xs, xs[i], ql, by simp [c]⟩, Pv (i + 1), fun σ2 H2 p2 => ⟨xs.length - (i + 1), by omega, rfl, c, p2⟩, fun x H2 y => ?_⟩
    obtain ⟨e1, e2⟩ := y
    subst e1
    exact hs i x σ' _ (e2 xs ql) p
  · have e : i = xs.length := by omega
    subst e
    exact Or.inl ⟨⟨xs, ql, Nat.le_refl _⟩, hd σ' H' p⟩
/-- a loop over a tuple turned round, its body already read -/
theorem for_rev {K : PySem.W.Frag} {a : Addr} {xs : List V} {B : (L2.St → Hp → Prop) → V → L2.St → Hp → Prop} {nx : L2.St → Hp → Prop} {σ : L2.St} {H : Hp} (Pv : Nat → L2.St → Hp → Prop) (h0 : Pv 0 σ H)
    (hl : ∀ i σ' H', i ≤ xs.length → Pv i σ' H' → SqT K H' a xs)
    (hs : ∀ (i : Nat) x σ' H', i < xs.length → xs[xs.length - 1 - i]? = some x → Pv i σ' H' → B (Pv (i + 1)) x σ' H') (hd : ∀ σ' H', Pv xs.length σ' H' → nx σ' H') :
    ∃ W : Nat → Nat → L2.St → Hp → Prop, (∃ m, W 0 m σ H) ∧ ∀ i m σ H, W i m σ H →
      ((RT.ItvT K a xs.length).stop i H ∧ nx σ H) ∨ ((RT.ItvT K a xs.length).go i H ∧ ∃ N : L2.St → Hp → Prop, (∀ σ' H', N σ' H' → ∃ m', m' < m ∧ W (i + 1) m' σ' H') ∧ ∀ x H', (RT.ItvT K a xs.length).yld i H x H' → B N x σ H') := by
  refine ⟨fun i m σ H => m = xs.length - i ∧ i ≤ xs.length ∧ Pv i σ H, ⟨xs.length, by simp, Nat.zero_le _, h0⟩, ?_⟩
  rintro i m σ' H' ⟨rfl, hi, p⟩
  have ql := hl i σ' H' hi p
  by_cases c : i < xs.length
  · have hx : xs.length - 1 - i < xs.length := by omega
    refine Or.inr ⟨⟨c, xs, xs[xs.length - 1 - i], ql, List.getElem?_eq_getElem hx⟩, Pv (i + 1), fun σ2 H2 p2 => ⟨xs.length - (i + 1), by omega, rfl, c, p2⟩, fun x H2 y => ?_⟩
    obtain ⟨e1, e2⟩ := y
    subst e1
    exact hs i x σ' _ c (e2 xs ql) p
  · have e : i = xs.length := by omega
    subst e
    exact Or.inl ⟨Nat.le_refl _, hd σ' H' p⟩
theorem drop_top {r : List Int} {k : Nat} (h : k < r.length) : r.drop (r.length - (k + 1)) = r[r.length - 1 - k] :: r.drop (r.length - k) := by
  have e : r.length - (k + 1) = r.length - 1 - k := by omega
  rw [e, List.drop_eq_getElem_cons (by omega)]
  congr 2
  omega
theorem sl_row {K : PySem.W.Frag} {H : Hp} {p : Addr} {r : List Int} {lo : Int} {Q : VK} (k : Nat) (hk : lo = (k : Int)) (e : H p = some (.tup (r.map V.int))) (q : ∀ z H', Same H H' → H' z = some (.tup ((r.drop k).map V.int)) → Q (.ref z) H') : rSlA K (.ref p) (some lo) none H Q := by
  subst hk
  have el : (r.map V.int).length = r.length := List.length_map _
  refine ⟨p, r.map V.int, rfl, SqT.of e, fun c => ?_, fun c t nt => ?_⟩
  · refine q p H (Same.refl _) ?_
    have c1 := c.1
    rw [HT.sIx_nat, el] at c1
    rcases Nat.eq_zero_or_pos r.length with z | z
    · have : r = [] := List.eq_nil_of_length_eq_zero z
      subst this
      simpa using e
    · rw [show k = 0 from by omega, List.drop_zero]
      exact e
  · refine q t _ (same_new nt) ?_
    rw [upd_same]
    unfold L2.cutV
    rw [HT.sIx_nat, HT.sIx_none, el, List.map_drop]
    congr 2
    rcases Nat.lt_or_ge k r.length with z | z
    · rw [Nat.min_eq_left (by omega), List.take_of_length_le (by rw [List.length_drop, el]; omega)]
    · rw [Nat.min_eq_right z, List.drop_of_length_le (by rw [el]; omega), List.drop_of_length_le (by rw [el]; exact z)]
      simp
theorem T_wide {n m : Int} {B N : Nat} (hn : n.natAbs ≤ N) (m0 : m.natAbs ≤ 7) : ∀ r : List Int, (∀ c ∈ r, c.natAbs ≤ B) → (T n m r).natAbs ≤ B * (N + 8) ^ r.length
  | [], _ => by simp [T]
  | c :: r, h => by
    have ih := T_wide hn m0 r fun d hd => h d (List.mem_cons_of_mem _ hd)
    have hc := h c (by simp)
    rw [T]
    refine Nat.le_trans (Int.natAbs_add_le _ _) ?_
    rw [Int.natAbs_mul, Int.natAbs_mul, Int.natAbs_pow, List.length_cons, Nat.pow_succ]
    have a1 : (T n m r).natAbs * n.natAbs ≤ B * (N + 8) ^ r.length * N := Nat.mul_le_mul ih hn
    have a2 : c.natAbs * m.natAbs ^ r.length ≤ B * (N + 8) ^ r.length := Nat.mul_le_mul hc (Nat.le_trans (Nat.pow_le_pow_left m0 _) (Nat.pow_le_pow_left (by omega) _))
    have a3 : B * ((N + 8) ^ r.length * (N + 8)) = B * (N + 8) ^ r.length * N + B * (N + 8) ^ r.length * 8 := by rw [← Nat.mul_assoc, Nat.mul_add]
    omega
/-! one row put into another one -/
def putI (s : List Int) : List Int → Nat → Int
  | [], _ => 0
  | c :: r, k => cv (putI s r) (g s) k + (if k = 0 then c else 0)
theorem cv_out' {f h : Nat → Int} {a b k : Nat} (zf : ∀ i, a < i → f i = 0) (zh : ∀ i, b < i → h i = 0) (hk : a + b < k) : cv f h k = 0 := by
  unfold cv
  rw [S_ext (h := fun _ => 0) _ fun i _ => by
    rcases Nat.lt_or_ge a i with c | c
    · rw [zf i c, Int.zero_mul]
    · rw [zh (k - i) (by omega), Int.mul_zero], S_zero]
theorem putI_out {s : List Int} (hs : s.length ≤ 5) : ∀ (r : List Int) (k : Nat), 4 * r.length < k → putI s r k = 0
  | [], _, _ => rfl
  | c :: r, k, h => by
    rw [List.length_cons] at h
    rw [putI, cv_out' (a := 4 * r.length) (b := 4) (putI_out hs r) (fun i hi => g_none (by omega)) (by omega), if_neg (by omega)]
    rfl
theorem S_le {F : Nat → Int} {C : Nat} (h : ∀ i, (F i).natAbs ≤ C) : ∀ n, (S n F).natAbs ≤ n * C
  | 0 => by simp [S]
  | n + 1 => by
    have ih := S_le h n
    rw [S, Nat.succ_mul]
    exact Nat.le_trans (Int.natAbs_add_le _ _) (Nat.add_le_add ih (h n))
theorem cv_le {f h : Nat → Int} {M N : Nat} (hf : ∀ i, (f i).natAbs ≤ M) (hh : ∀ i, (h i).natAbs ≤ N) (zh : ∀ i, 4 < i → h i = 0) (k : Nat) : (cv f h k).natAbs ≤ 5 * (N * M) := by
  rw [cv_comm]
  unfold cv
  have t : ∀ i, (h i * f (k - i)).natAbs ≤ N * M := fun i => by rw [Int.natAbs_mul]; exact Nat.mul_le_mul (hh i) (hf _)
  rcases Nat.lt_or_ge (k + 1) 5 with c | c
  · exact Nat.le_trans (S_le t (k + 1)) (Nat.mul_le_mul_right _ (by omega))
  · rw [S_more (n := 5) c fun i hi => by rw [zh i (by omega), Int.zero_mul]]
    exact S_le t 5
def putB : Nat → Nat
  | 0 => 0
  | n + 1 => 5 * (1000000 * putB n) + 1000000
theorem putI_le {s : List Int} (hs : s.length ≤ 5) (hb : ∀ c ∈ s, c.natAbs ≤ 1000000) : ∀ r : List Int, (∀ c ∈ r, c.natAbs ≤ 1000000) → ∀ k, (putI s r k).natAbs ≤ putB r.length
  | [], _, _ => by simp [putI]
  | c :: r, h, k => by
    have ih := putI_le hs hb r fun d hd => h d (List.mem_cons_of_mem _ hd)
    have hc := h c (by simp)
    have hg : ∀ i, (g s i).natAbs ≤ 1000000 := fun i => by
      rcases Nat.lt_or_ge i s.length with c | c
      · rw [g_some c]; exact hb _ (List.getElem_mem c)
      · rw [g_none c]; decide
    rw [putI, List.length_cons, putB]
    refine Nat.le_trans (Int.natAbs_add_le _ _) (Nat.add_le_add (cv_le ih hg (fun i hi => g_none (by omega)) k) ?_)
    split
    · exact hc
    · decide
theorem putB_five {n : Nat} (h : n ≤ 5) : putB n ≤ 10 ^ 60 := by
  rcases n with _ | _ | _ | _ | _ | _ | n
  all_goals first | omega | decide
/-! the prime part -/
def primeI (r : List Int) : List Int := if 0 < g r (r.length - 1) ∨ r = [] then r.map (fun c => c / (G 0 r : Int)) else r.map (fun c => 0 - c / (G 0 r : Int))
theorem G_pos {r : List Int} (ok : okR r) (ne : r ≠ []) : 0 < G 0 r := by
  have h := okR_last ok ne
  have hl : r.length - 1 < r.length := by have := List.length_pos_iff.mpr ne; omega
  have hd := G_mem (y := r[r.length - 1]) r 0 (List.getElem_mem hl)
  rw [g_some hl] at h
  exact Nat.pos_of_ne_zero fun z => by
    rw [z] at hd
    have := Nat.eq_zero_of_zero_dvd hd
    omega
theorem G_le {r : List Int} {b : Nat} (ok : okR r) (ne : r ≠ []) (hb : ∀ c ∈ r, c.natAbs ≤ b) : G 0 r ≤ b := by
  have h := okR_last ok ne
  have hl : r.length - 1 < r.length := by have := List.length_pos_iff.mpr ne; omega
  have hd := G_mem (y := r[r.length - 1]) r 0 (List.getElem_mem hl)
  rw [g_some hl] at h
  exact Nat.le_trans (Nat.le_of_dvd (by omega) hd) (hb _ (List.getElem_mem hl))
theorem G_int {r : List Int} {c : Int} (h : c ∈ r) : (G 0 r : Int) ∣ c := Int.ofNat_dvd_left.mpr (G_mem r 0 h)
theorem okR_primeI {r : List Int} (ok : okR r) : okR (primeI r) := fun c hc => by
  rcases Classical.em (r = []) with e | ne
  · subst e
    simp [primeI] at hc
  · have h := okR_last ok ne
    have hl : r.length - 1 < r.length := by have := List.length_pos_iff.mpr ne; omega
    rw [g_some hl] at h
    have dv := G_int (List.getElem_mem hl)
    have g0 := G_pos ok ne
    have q0 : r[r.length - 1] / (G 0 r : Int) ≠ 0 := fun z => by
      have := Int.ediv_mul_cancel dv
      rw [z, Int.zero_mul] at this
      exact h this.symm
    have last : ∀ f : Int → Int, (r.map f).getLast? = some (f r[r.length - 1]) := fun f => by
      rw [List.getLast?_eq_getElem?, List.length_map, List.getElem?_map, List.getElem?_eq_getElem hl]
      rfl
    unfold primeI at hc
    split at hc
    · rw [last] at hc; cases hc; exact q0
    · rw [last] at hc
      cases hc
      show 0 - r[r.length - 1] / (G 0 r : Int) ≠ 0
      omega
theorem len_primeI (r : List Int) : (primeI r).length = r.length := by
  unfold primeI
  split <;> exact List.length_map _
theorem le_primeI {r : List Int} {b : Nat} (hb : ∀ c ∈ r, c.natAbs ≤ b) : ∀ c ∈ primeI r, c.natAbs ≤ b := fun c hc => by
  unfold primeI at hc
  split at hc
  · obtain ⟨x, hx, rfl⟩ := List.mem_map.mp hc
    exact Nat.le_trans (Int.natAbs_ediv_le_natAbs _ _) (hb x hx)
  · obtain ⟨x, hx, rfl⟩ := List.mem_map.mp hc
    have := Nat.le_trans (Int.natAbs_ediv_le_natAbs x (G 0 r : Int)) (hb x hx)
    omega
theorem fdiv_pos {c G : Int} (h : 0 < G) : c.fdiv G = c / G := Int.fdiv_eq_ediv_of_nonneg c (by omega)
theorem fdiv_neg {c G : Int} (h : 0 < G) (d : G ∣ c) : c.fdiv (-G) = 0 - c / G := by
  obtain ⟨q, rfl⟩ := d
  rw [Int.mul_ediv_cancel_left _ (by omega), show G * q = (-G) * (-q) from by grind, Int.mul_fdiv_cancel_left _ (by omega)]
  omega
def B6 (r : List Int) : Prop := ∀ c ∈ r, c.natAbs ≤ 1000000
def spValue : Sp := fun vs H Q _ => ∃ u v r n m, vs = [u, v] ∧ Ro H u r ∧ Pr H v n m ∧ Sp2 n m ∧ r.length ≤ 8 ∧ ∀ H', Same H H' → Q (.int (T n m r)) H'
def spWorth : Sp := fun vs H Q _ => ∃ u v r n m, vs = [u, v] ∧ Ro H u r ∧ Pr H v n m ∧ Sp2 n m ∧ r.length ≤ 8 ∧ ∀ z a b H', Same H H' → Pr H' z a b → Lo a b (T n m r) (m ^ (r.length - 1)) → Q z H'
def spThin : Sp := fun vs H Q _ => ∃ u r, vs = [u] ∧ Ro H u r ∧ okR r ∧ r.length ≤ 100 ∧ B6 r ∧ ∀ z H', Same H H' → Ro H' z (r.map fun c => c / (G 0 r : Int)) → Q z H'
def spPrime : Sp := fun vs H Q _ => ∃ u r, vs = [u] ∧ Ro H u r ∧ okR r ∧ r.length ≤ 100 ∧ B6 r ∧ ∀ z H', Same H H' → Ro H' z (primeI r) → Q z H'
def spPutIn : Sp := fun vs H Q _ => ∃ u v r s, vs = [u, v] ∧ Ro H u r ∧ Ro H v s ∧ okR r ∧ okR s ∧ r.length ≤ 5 ∧ s.length ≤ 5 ∧ B6 s ∧ ∀ z t H', Same H H' → Ro H' z t → okR t → (∀ k, g t k = putI s r k) → Q z H'
section
variable {P : Program} {w : World} {K : PySem.W.Frag} {mg : Str → Option Value} {base : Heap}
theorem scValue : FnScope ["_law_line_here", "_law_part_here", "_law_found", "_law_by", "_law_each"] ["_law_line_here", "_law_part_here"] (defScope sValue) := ⟨rfl, rfl, rfl, by decide +kernel, rfl, by decide +kernel, by decide +kernel⟩
theorem ok_value (D : Def K mg "_law_value" sValue ["_law_line_here", "_law_part_here"]) : Cal P w K mg base "_law_value" 1 ["_law_line_here", "_law_part_here"] spValue := by
  refine D.ok scValue (fun vs H Q E h => ?_) (fun f cdv A out s H vs Q E hr h => ?_)
  · obtain ⟨u, v, r, n, m, rfl, _⟩ := h; rfl
  obtain ⟨u, v, r, n, m, rfl, hu, hv, sp, hl, q⟩ := h
  refine ⟨_, pss_cons (ps_asg (pe_tup (pa_cons pe_int (pa_cons pe_int pa_nil))) (pg_tup rfl (pgs_cons (pg_name (i := 2) scValue.nd rfl (Or.inl rfl)) (pgs_cons (pg_name (i := 3) scValue.nd rfl (Or.inl rfl)) pgs_nil))))
    (pss_cons (ps_for PassesOwn.never rfl (pi_tup (pe_revT (pv 0))) (pg_name (i := 4) scValue.nd rfl (Or.inl rfl))
      (pss_one (ps_par (i := 2) (j := 3) rfl scValue.nd rfl rfl (by decide) rfl rfl (pa_cons (pe_op op_add (pe_op op_mul (pv 2) (pe_ix ix_tup (pv 1) pe_int (fun _ _ => rfl))) (pe_op op_mul (pv 4) (pv 3))) (pa_cons (pe_op op_mul (pv 3) (pe_ix ix_tup (pv 1) pe_int (fun _ _ => rfl))) pa_nil)) rfl)))
    (pss_one (ps_ret (pv 2)))), ?_⟩
  walk_at "rd"
  obtain ⟨pu, rfl, eu⟩ := hu
  obtain ⟨n6, m0, m7, _⟩ := sp
  have pk : ∀ k, k ≤ 8 → m ^ k ≤ 7 ^ 8 := fun k hk => Int.le_trans (pow_le7 m0 m7 k) (pow_mono7 hk)
  refine ⟨sz (by simp), fun t0 nt0 => ⟨t0, _, rfl, SqT.of upd_same, rfl, _, _, rfl, _, _, rfl, rfl, ?_⟩⟩
  have s0 := same_new (o := .tup [.int 0, .int 1]) nt0
  have hv := hv.kt (Kt.of s0)
  have eu := s0 _ _ eu
  generalize upd H t0 (.tup [.int 0, .int 1]) = H at s0 hv eu ⊢
  refine ⟨.ref pu, rfl, pu, r.map V.int, rfl, SqT.of eu, fun t nt => ?_⟩
  have s1 := same_new (o := .tup (r.map V.int).reverse) nt
  have et : upd H t (.tup (r.map V.int).reverse) t = some (.tup (r.map V.int).reverse) := upd_same
  have hv1 := hv.kt (Kt.of s1)
  generalize upd H t (.tup (r.map V.int).reverse) = H1 at s1 et hv1 ⊢
  have lrv : (r.map V.int).reverse.length = r.length := by rw [List.length_reverse, List.length_map]
  refine ⟨t, rfl, ⟨_, SqT.of et⟩, for_tup (xs := (r.map V.int).reverse) (fun i σ H' => ∃ x4, σ = [some (.ref pu), some v, some (.int (T n m (r.drop (r.length - i)))), some (.int (m ^ (r.drop (r.length - i)).length)), x4] ∧ H' = H1) ?_ ?_ ?_ ?_⟩
  · refine ⟨none, ?_, rfl⟩
    rw [Nat.sub_zero, List.drop_length, show (m ^ ([] : List Int).length : Int) = 1 from Int.pow_zero m]
    rfl
  · rintro i σ H' hi ⟨x4, rfl, rfl⟩
    exact SqT.of et
  · rintro i x σ H' hx ⟨x4, rfl, rfl⟩
    have hi : i < r.length := by have := (List.getElem?_eq_some_iff.mp hx).1; omega
    rw [List.getElem?_reverse (by rw [List.length_map]; exact hi), List.length_map, List.getElem?_map, List.getElem?_eq_getElem (by omega)] at hx
    cases hx
    have ls : (r.drop (r.length - i)).length = i := by rw [List.length_drop]; omega
    have dt := drop_top hi
    generalize r.drop (r.length - i) = sfx at ls dt ⊢
    rw [dt]
    have p0 := pow_pos' m0 sfx.length
    have p1 := pk sfx.length (by omega)
    refine ⟨.int _, rfl, v, rfl, hv1.ix0 ⟨_, _, rfl, rfl, .inr ⟨by omega, by omega⟩, .int _, rfl, .int _, rfl, _, _, rfl, rfl, .inr ⟨by omega, by omega⟩, _, _, rfl, rfl, .int _, rfl, v, rfl, hv1.ix1 ⟨_, _, rfl, rfl, .inr ⟨by omega, by omega⟩, _, _, rfl, some (.int r[r.length - 1 - i]), ?_, rfl⟩⟩⟩
    show [some (V.ref pu), some v, some (V.int (T n m sfx * n + r[r.length - 1 - i] * m ^ sfx.length)), some (V.int (m ^ sfx.length * m)), some (V.int r[r.length - 1 - i])] = _
    rw [List.length_cons, Int.pow_succ, T]
  · rintro σ H' ⟨x4, rfl, rfl⟩
    refine ⟨_, rfl, ?_⟩
    rw [lrv, Nat.sub_self, List.drop_zero]
    exact q _ (s0.trans s1)
theorem scWorth : FnScope ["_law_line_here", "_law_part_here", "_law_base", "_law_each"] ["_law_line_here", "_law_part_here"] (defScope sWorth) := ⟨rfl, rfl, rfl, by decide +kernel, rfl, by decide +kernel, by decide +kernel⟩
theorem ok_worth (D : Def K mg "_law_worth" sWorth ["_law_line_here", "_law_part_here"]) (c1 : Cal P w K mg base "_law_value" 1 ["_law_line_here", "_law_part_here"] spValue) (c2 : Cal P w K mg base "_law_lean" 2 ["_law_top", "_law_base"] spLean) : Cal P w K mg base "_law_worth" 3 ["_law_line_here", "_law_part_here"] spWorth := by
  refine D.ok scWorth (fun vs H Q E h => ?_) (fun f cdv A out s H vs Q E hr h => ?_)
  · obtain ⟨u, v, r, n, m, rfl, _⟩ := h; rfl
  obtain ⟨u, v, r, n, m, rfl, hu, hv, sp, hl, q⟩ := h
  refine ⟨_, pss_cons (ps_set (i := 2) scWorth.nd rfl (Or.inl rfl) pe_int)
    (pss_cons (ps_for PassesOwn.never rfl (pi_tup (pe_slice sl_tupA (pv 0) (po_some pe_int) po_none)) (pg_name (i := 3) scWorth.nd rfl (Or.inl rfl))
      (pss_one (ps_set (i := 2) scWorth.nd rfl (Or.inl rfl) (pe_op op_mul (pv 2) (pe_ix ix_tup (pv 1) pe_int (fun _ _ => rfl))))))
    (pss_one (ps_ret (pe_cal c2 hr (by decide) (by rfl) (pa_cons (pe_cal c1 hr (by decide) (by rfl) (pa_cons (pv 0) (pa_cons (pv 1) pa_nil))) (pa_cons (pv 2) pa_nil)))))), ?_⟩
  walk_at "rd"
  obtain ⟨pu, rfl, eu⟩ := hu
  have m0 := sp.2.1
  have m7 := sp.2.2.1
  have pk : ∀ k, k ≤ 8 → m ^ k ≤ 7 ^ 8 := fun k hk => Int.le_trans (pow_le7 m0 m7 k) (pow_mono7 hk)
  refine ⟨.ref pu, rfl, 1, rfl, ?_⟩
  walk_at "rd"
  refine sl_row 1 rfl eu fun z H1 s1 ez => ?_
  have hv1 := hv.kt (Kt.of s1)
  refine ⟨z, rfl, ⟨_, SqT.of ez⟩, for_tup (xs := (r.drop 1).map V.int) (fun i σ H' => ∃ x3, σ = [some (.ref pu), some v, some (.int (m ^ i)), x3] ∧ H' = H1) ?_ ?_ ?_ ?_⟩
  · exact ⟨none, by rw [Int.pow_zero]; rfl, rfl⟩
  · rintro i σ H' hi ⟨x3, rfl, rfl⟩
    exact SqT.of ez
  · rintro i x σ H' hx ⟨x3, rfl, rfl⟩
    have hi := (List.getElem?_eq_some_iff.mp hx).1
    rw [List.length_map, List.length_drop] at hi
    have p0 := pow_pos' m0 i
    have p1 := pk i (by omega)
    refine ⟨.int _, rfl, v, rfl, hv1.ix1 ⟨_, _, rfl, rfl, .inr ⟨by omega, by omega⟩, some x, ?_, rfl⟩⟩
    rw [Int.pow_succ]
    rfl
  · rintro σ H' ⟨x3, rfl, rfl⟩
    rw [List.length_map, List.length_drop]
    have p0 := pow_pos' m0 (r.length - 1)
    have p1 := pk (r.length - 1) (by omega)
    refine ⟨.ref pu, rfl, v, rfl, .ref pu, v, r, n, m, rfl, ⟨pu, rfl, s1 _ _ eu⟩, hv1, sp, hl, fun H2 s2 => ⟨.int _, rfl, _, _, rfl, p0, by omega, fun z a b H3 s3 pz lz => q z a b H3 (s1.trans (s2.trans s3)) pz lz⟩⟩
theorem scThin : FnScope ["_law_line_here", "_law_far", "_law_each"] ["_law_line_here"] (defScope sThin) := ⟨rfl, rfl, rfl, by decide +kernel, rfl, by decide +kernel, by decide +kernel⟩
theorem ok_thin (D : Def K mg "_law_thin" sThin ["_law_line_here"]) (nb : Nb mg) (c1 : Cal P w K mg base "_law_common" 1 ["_law_one", "_law_two"] spCommon) : Cal P w K mg base "_law_thin" 2 ["_law_line_here"] spThin := by
  refine D.ok scThin (fun vs H Q E h => ?_) (fun f cdv A out s H vs Q E hr h => ?_)
  · obtain ⟨u, r, rfl, _⟩ := h; rfl
  obtain ⟨u, r, rfl, hu, okr, lr, b6, q⟩ := h
  refine ⟨_, pss_cons (ps_set (i := 1) scThin.nd rfl (Or.inr rfl) pe_int)
    (pss_cons (ps_for PassesOwn.never rfl (pi_tup (pv 0)) (pg_name (i := 2) scThin.nd rfl (Or.inl rfl))
      (pss_one (ps_set (i := 1) scThin.nd rfl (Or.inr rfl) (pe_cal c1 hr (by decide) (by rfl) (pa_cons (pv 1) (pa_cons (pv 2) pa_nil))))))
    (pss_one (ps_ret (pe_callTy (T := "tuple") call_tuple_of (by rfl) nb.tup (by decide +kernel) (pa_cons (pe_lc (own := [("_law_each", 2)]) (g := gName 2) (tt := tYes) rfl scThin.nd (pi_tup (pv 0)) (blkOk_by (N := ["_law_line_here", "_law_far", "_law_each"]) (sc := defScope sThin) (by decide +kernel))
        (fun _ _ _ _ _ => pg_name (i := 2) scThin.nd rfl (Or.inl rfl)) (fun _ _ _ _ _ => pts_nil) (fun _ _ _ _ _ => pe_op op_fdiv (pv 2) (pv 1))) pa_nil))))), ?_⟩
  walk_at "rd"
  obtain ⟨pu, rfl, eu⟩ := hu
  refine ⟨.ref pu, rfl, pu, rfl, ⟨_, SqT.of eu⟩, for_tup (xs := r.map V.int) (fun i σ H' => ∃ (x2 : Option V), σ = [some (.ref pu), some (.int (G 0 (r.take i) : Nat)), x2] ∧ Same H H') ?_ ?_ ?_ ?_⟩
  · exact ⟨none, rfl, Same.refl _⟩
  · rintro i σ H1 hi ⟨x2, rfl, s1⟩
    exact SqT.of (s1 _ _ eu)
  · rintro i x σ H1 hx ⟨x2, rfl, s1⟩
    rw [List.getElem?_map] at hx
    cases hl : r[i]? with
    | none => rw [hl] at hx; cases hx
    | some c =>
      rw [hl] at hx
      cases hx
      have eg : Nat.gcd (G 0 (r.take i)) c.natAbs = G 0 (r.take (i + 1)) := by
        rw [List.take_add_one, hl]
        exact (G_append _ _ _).symm
      refine ⟨_, rfl, .int c, rfl, _, c, rfl, fun H2 s2 => ⟨some (.int c), ?_, s1.trans s2⟩⟩
      rw [Int.natAbs_natCast, eg]
      rfl
  · rintro σ H1 ⟨x2, rfl, s1⟩
    rw [List.length_map, List.take_length]
    refine lc_relT (S := fun _ v k => v = V.int k) (R := fun _ v k => v = V.int k) (g := fun x => x / (G 0 r : Int)) (rs := r) (p := pu) (xs := r.map V.int) (stable_eq _) (stable_eq _) rfl (s1 _ _ eu) (RelA.of_map _) (by omega) (fun x => wipeJ _ _ _) (fun x d H2 hd s2 rx Z hZ => ?_) fun L ys H2 s2 nL eL ry => ?_
    · subst rx
      have ne : r ≠ [] := fun z => by rw [z] at hd; cases hd
      have g0 := G_pos okr ne
      have g1 := G_le okr ne b6
      exact ⟨.int d, rfl, .int _, rfl, _, _, rfl, rfl, ⟨by omega, by omega⟩, hZ _ _ (Same.refl _) rfl⟩
    · have ey := RelA.eq_map ry
      refine ⟨L, _, rfl, .inl ⟨SqL.of eL, fun t nt => ?_⟩⟩
      exact q _ _ ((s1.trans s2).trans (same_new nt)) ⟨t, rfl, by rw [upd_same, ey]⟩
end
end K02

set_option Elab.async false
set_option linter.all false
set_option maxRecDepth 100000
set_option maxHeartbeats 4000000
local macro_rules | `(tactic| walk_at "rd") => `(tactic| dsimp only [Evl.tCut, L2.tSeq, L2.tNext, L2.tRet, L2.tRetN, L2.tAsg, L2.gName, L2.tIfS, L2.tDrop, L2.tCons, L2.tNil, L2.tC, L2.tVar, L2.tCB, L2.tAndV, L2.tOrV, L2.tNotV, L2.tB, L2.tTest, L2.tOp, L2.tUn, L2.tNot, L2.tAnd, L2.tOr, L2.tIf, L2.tCall, L2.tTup, L2.tLst, L2.tNotT, L2.tYes, L2.gTup, L2.gCons, L2.gNil, L2.gSub, L2.tBM0, L2.tBM, L2.tWhile, L2.tFor, L2.iRng1, L2.iRng2, L2.tAugS, Tw.iEnumT, L2.tCKw, L2.tAug, L2.ipI, RT.iRevA, L2.tPar, L2.tPar3, L2.tSl, L2.tNoPart, L2.tPart, Tw.tRevT])
namespace K02
open PySem PySem.Spec PyProof.Rows L2 Tw
section
variable {K : PySem.W.Frag} {wi : TI} {j : Nat} {elt : TE} {vs : List Nat} {σ : L2.St} {H : Hp} {Q : VK}
/-- [.. for x in a tuple of ints that is made there and then] -/
theorem lc_intsS (r : List Int) (f : Int → Int) (hi : ∀ R : It → Hp → Prop, (∀ z H1, Same H H1 → H1 z = some (.tup (r.map V.int)) → R (Itt K z) H1) → wi σ H R) (hn : r.length < 100000)
    (hw : ∀ x, wipe ((wipe σ vs).set j (some x)) vs = wipe σ vs)
    (he : ∀ d H1, d ∈ r → Same H H1 → ∀ Z : VK, Z (.int (f d)) H1 → elt ((wipe σ vs).set j (some (.int d))) H1 Z)
    (q : ∀ D H', Same H H' → H D = none → H' D = some (.lst ((r.map f).map V.int)) → Q (.ref D) H') : tLc wi (gName j) tYes elt vs σ H Q := by
  refine hi _ fun z H1 s1 ez D hD => ?_
  refine lc_tup (xs := r.map V.int) (fun m H' => Same H1 H' ∧ H' D = some (.lst (((r.take m).map f).map V.int))) ⟨same_new hD, upd_same⟩ (fun m H' _ h => SqT.of (h.1 _ _ ez)) (fun m x H2 hx h => ?_) (fun H' h => ?_)
  · obtain ⟨s2, eD⟩ := h
    rw [List.getElem?_map] at hx
    cases hd : r[m]? with
    | none => rw [hd] at hx; cases hx
    | some d =>
      rw [hd] at hx
      cases hx
      refine ⟨hw _, ?_⟩
      unfold tYes
      simp only [if_true]
      refine he d H2 (List.mem_of_getElem? hd) (s1.trans s2) _ ⟨_, eD, lt_line (by rw [List.length_map, List.length_map, List.length_take]; omega), same_upd s2 hD, ?_⟩
      rw [upd_same, List.take_add_one, hd, List.map_append, List.map_append]
      rfl
  · obtain ⟨s2, eD⟩ := h
    rw [List.length_map, List.take_length] at eD
    exact q D H' (s1.trans s2) (s1.free hD) eD
end
def spTurned : Sp := fun vs H Q _ => ∃ a u r, vs = [.ref a, u] ∧ We a H ∧ Ro H u r ∧ r.length ≤ 5 ∧ B6 r ∧ ∀ z t H', Kp a H H' → We a H' → Ro H' z t → okR t → t.length ≤ 5 → B6 t → Q z H'
section
variable {P : Program} {w : World} {K : PySem.W.Frag} {mg : Str → Option Value} {base : Heap}
theorem scPrime : FnScope ["_law_line_here", "_law_found", "_law_each"] ["_law_line_here"] (defScope sPrime) := ⟨rfl, rfl, rfl, by decide +kernel, rfl, by decide +kernel, by decide +kernel⟩
theorem ok_prime (D : Def K mg "_law_prime" sPrime ["_law_line_here"]) (nb : Nb mg) (c1 : Cal P w K mg base "_law_thin" 2 ["_law_line_here"] spThin) : Cal P w K mg base "_law_prime" 3 ["_law_line_here"] spPrime := by
  refine D.ok scPrime (fun vs H Q E h => ?_) (fun f cdv A out s H vs Q E hr h => ?_)
  · obtain ⟨u, r, rfl, _⟩ := h; rfl
  obtain ⟨u, r, rfl, hu, okr, lr, b6, q⟩ := h
  refine ⟨_, pss_cons (ps_set (i := 1) scPrime.nd rfl (Or.inl rfl) (pe_cal c1 hr (by decide) (by rfl) (pa_cons (pv 0) pa_nil)))
    (pss_one (ps_ret (pe_ifExp (PW.pt (pw_or (pt_cmpR (op_eqT0 hr.units) (pv 0) (pe_tup pa_nil) (nomark _)) (pw_or1 (pt_cmpR op_gt (pe_ix ix_tup (pv 0) (pe_un un_neg pe_int) (fun _ _ => rfl)) pe_int (nomark _)))))
      (pv 1) (pe_callTy (T := "tuple") call_tuple_of (by rfl) nb.tup (by decide +kernel) (pa_cons (pe_lc (own := [("_law_each", 2)]) (g := gName 2) (tt := tYes) rfl scPrime.nd (pi_tup (pv 1)) (blkOk_by (N := ["_law_line_here", "_law_found", "_law_each"]) (sc := defScope sPrime) (by decide +kernel))
        (fun _ _ _ _ _ => pg_name (i := 2) scPrime.nd rfl (Or.inl rfl)) (fun _ _ _ _ _ => pts_nil) (fun _ _ _ _ _ => pe_op op_sub pe_int (pv 2))) pa_nil))))), ?_⟩
  walk_at "rd"
  obtain ⟨pu, rfl, eu⟩ := hu
  refine ⟨.ref pu, rfl, .ref pu, r, rfl, ⟨pu, rfl, eu⟩, okr, lr, b6, fun z H1 s1 rz => ?_⟩
  obtain ⟨pz, rfl, ez⟩ := rz
  refine ⟨.ref pu, rfl, sz (by decide), fun t nt => ?_⟩
  have s2 := same_new (o := .tup []) nt
  have s12 := s1.trans s2
  refine ⟨pu, t, r.map V.int, [], rfl, rfl, SqT.of (s12 _ _ eu), SqT.of upd_same, rfl, (r.map V.int).isEmpty, rfl, ?_⟩
  have ez2 := s2 _ _ ez
  generalize upd H1 t (.tup []) = H2 at s2 s12 ez2 ⊢
  have emp : (r.map V.int).isEmpty = r.isEmpty := by cases r <;> rfl
  rw [emp]
  cases er : r.isEmpty with
  | true =>
    have e0 : r = [] := by simpa using er
    refine iteT ⟨.ref pz, rfl, q _ H2 s12 ⟨pz, rfl, ?_⟩⟩
    rw [ez2]
    subst e0
    rfl
  | false =>
    have ne : r ≠ [] := fun z => by rw [z] at er; cases er
    have l0 : 0 < r.length := List.length_pos_iff.mpr ne
    have hl : r.length - 1 < r.length := by omega
    have at1 : atI (r.map V.int) (-1) = some (.int r[r.length - 1]) := atI_end (by rw [List.getLast?_eq_getElem?, List.length_map, List.getElem?_map, List.getElem?_eq_getElem hl]; rfl)
    refine iteF ⟨.ref pu, rfl, 1, rfl, pu, _, -1, _, rfl, rfl, SqT.of (s12 _ _ eu), at1, _, _, rfl, rfl, _, rfl, ite2 (fun c => ?_) (fun c => ?_)⟩
    · have c := of_decide_eq_true c
      refine ⟨.ref pz, rfl, q _ H2 s12 ⟨pz, rfl, ?_⟩⟩
      rw [ez2]
      unfold primeI
      rw [if_pos (.inl (by rw [g_some hl]; exact c))]
    · have c' : ¬ (0 < r[r.length - 1]) := fun z => c (decide_eq_true z)
      refine lc_relT (S := fun _ v k => v = V.int k) (R := fun _ v k => v = V.int k) (g := fun x => 0 - x) (rs := r.map fun c => c / (G 0 r : Int)) (p := pz) (xs := (r.map fun c => c / (G 0 r : Int)).map V.int) (stable_eq _) (stable_eq _) rfl ez2 (RelA.of_map _) (by rw [List.length_map]; omega) (fun x => wipeJ _ _ _) (fun x d H3 hd s3 rx Z hZ => ?_) fun L ys H3 s3 nL eL ry => ?_
      · subst rx
        exact ⟨.int d, rfl, _, _, rfl, rfl, hZ _ _ (Same.refl _) rfl⟩
      · have ey := RelA.eq_map ry
        refine ⟨L, _, rfl, .inl ⟨SqL.of eL, fun t nt => ?_⟩⟩
        refine q _ _ ((s12.trans s3).trans (same_new nt)) ⟨t, rfl, ?_⟩
        rw [upd_same, ey]
        unfold primeI
        rw [if_neg (fun z => z.elim (fun z => c' (by rw [g_some hl] at z; exact z)) ne)]
        simp only [List.map_map]
        rfl
theorem scPutIn : FnScope ["_law_one", "_law_two", "_law_found", "_law_each"] ["_law_one", "_law_two"] (defScope sPutIn) := ⟨rfl, rfl, rfl, by decide +kernel, rfl, by decide +kernel, by decide +kernel⟩
theorem ok_putin (D : Def K mg "_law_put_in" sPutIn ["_law_one", "_law_two"]) (c1 : Cal P w K mg base "_law_sum" 2 ["_law_one", "_law_two"] spLSum) (c2 : Cal P w K mg base "_law_product" 2 ["_law_one", "_law_two"] spProd) (c3 : Cal P w K mg base "_law_trim" 1 ["_law_some"] spTrimI) : Cal P w K mg base "_law_put_in" 3 ["_law_one", "_law_two"] spPutIn := by
  refine D.ok scPutIn (fun vs H Q E h => ?_) (fun f cdv A out s H vs Q E hr h => ?_)
  · obtain ⟨u, v, r, s, rfl, _⟩ := h; rfl
  obtain ⟨u, v, r, t, rfl, hu, hv, okr, okt, lr, lt, b6, q⟩ := h
  refine ⟨_, pss_cons (ps_set (i := 2) scPutIn.nd rfl (Or.inl rfl) (pe_tup pa_nil))
    (pss_cons (ps_for PassesOwn.never rfl (pi_tup (pe_revT (pv 0))) (pg_name (i := 3) scPutIn.nd rfl (Or.inl rfl))
      (pss_one (ps_set (i := 2) scPutIn.nd rfl (Or.inl rfl) (pe_cal c1 hr (by decide) (by rfl) (pa_cons (pe_cal c2 hr (by decide) (by rfl) (pa_cons (pv 2) (pa_cons (pv 1) pa_nil))) (pa_cons (pe_cal c3 hr (by decide) (by rfl) (pa_cons (pe_tup (pa_cons (pv 3) pa_nil)) pa_nil)) pa_nil))))))
    (pss_one (ps_ret (pv 2)))), ?_⟩
  walk_at "rd"
  obtain ⟨pu, rfl, eu⟩ := hu
  refine ⟨sz (by simp), fun e0 ne0 => ?_⟩
  have s0 := same_new (o := .tup []) ne0
  have r0 : Ro (upd H e0 (.tup [])) (.ref e0) [] := ⟨e0, rfl, upd_same⟩
  generalize upd H e0 (.tup []) = H0 at s0 r0 ⊢
  refine ⟨.ref pu, rfl, pu, r.map V.int, rfl, SqT.of (s0 _ _ eu), fun tr nt => ?_⟩
  have s1 := same_new (o := .tup (r.map V.int).reverse) nt
  have et : upd H0 tr (.tup (r.map V.int).reverse) tr = some (.tup (r.map V.int).reverse) := upd_same
  have s01 := s0.trans s1
  have r1 := r0.kt (Kt.of s1)
  have hv1 := hv.kt (Kt.of s01)
  generalize upd H0 tr (.tup (r.map V.int).reverse) = H1 at s1 s01 et r1 hv1 ⊢
  have lrv : (r.map V.int).reverse.length = r.length := by rw [List.length_reverse, List.length_map]
  refine ⟨tr, rfl, ⟨_, SqT.of et⟩, for_tup (xs := (r.map V.int).reverse) (fun i σ H' => ∃ z x3 l, σ = [some (.ref pu), some v, some z, x3] ∧ Same H1 H' ∧ Ro H' z l ∧ okR l ∧ ∀ k, g l k = putI t (r.drop (r.length - i)) k) ?_ ?_ ?_ ?_⟩
  · refine ⟨_, none, [], rfl, Same.refl _, r1, okR_nil, fun k => ?_⟩
    rw [Nat.sub_zero, List.drop_length, g_none (Nat.zero_le _)]
    rfl
  · rintro i σ H' hi ⟨z, x3, l, rfl, s', _⟩
    exact SqT.of (s' _ _ et)
  · rintro i x σ H' hx ⟨z, x3, l, rfl, s', rl, okl, gl⟩
    have hi : i < r.length := by have := (List.getElem?_eq_some_iff.mp hx).1; omega
    rw [List.getElem?_reverse (by rw [List.length_map]; exact hi), List.length_map, List.getElem?_map, List.getElem?_eq_getElem (by omega)] at hx
    cases hx
    have ls : (r.drop (r.length - i)).length = i := by rw [List.length_drop]; omega
    have dt := drop_top hi
    generalize r.drop (r.length - i) = sfx at ls dt gl ⊢
    rw [dt]
    have ll : l.length ≤ 21 := len_of okl fun k hk => by rw [gl, putI_out lt sfx k (by omega)]
    refine ⟨z, rfl, v, rfl, z, v, l, t, rfl, rl, hv1.kt (Kt.of s'), by omega, by omega, fun c hc d hd => .inr (Nat.lt_of_le_of_lt (b6 d hd) (by decide)), fun z2 l2 H2 s2 r2 ok2 g2 => ?_⟩
    have l2l : l2.length ≤ 40 := len_of ok2 fun k hk => by
      rw [g2]
      exact cv_out' (a := 20) (b := 4) (fun i hi => g_none (by omega)) (fun i hi => g_none (by omega)) (by omega)
    refine ⟨.int _, rfl, sz (by simp), fun p np => ?_⟩
    have s3 := same_new (o := .tup [.int r[r.length - 1 - i]]) np
    refine ⟨p, [r[r.length - 1 - i]], rfl, .inr upd_same, by simp, fun z3 H3 s4 r3 => ?_⟩
    have s34 := s3.trans s4
    refine ⟨z2, z3, l2, trimI [r[r.length - 1 - i]], rfl, r2.kt (Kt.of s34), r3, by omega, Nat.le_trans (trimBy_len _ _) (by simp), fun z4 l4 H4 s5 r4 ok4 g4 => ?_⟩
    refine ⟨z4, some (.int r[r.length - 1 - i]), l4, rfl, s'.trans (s2.trans (s34.trans s5)), r4, ok4, fun k => ?_⟩
    rw [g4, g2, g_trim, putI]
    congr 1
    · unfold cv
      exact S_ext _ fun m _ => by rw [gl]
    · cases k with
      | zero => rfl
      | succ k => rw [if_neg (by omega)]; rfl
  · rintro σ H' ⟨z, x3, l, rfl, s', rl, okl, gl⟩
    rw [lrv, Nat.sub_self, List.drop_zero] at gl
    exact ⟨z, rfl, q z l H' (s01.trans s') rl okl gl⟩
theorem scTurned : FnScope ["_law_well_here", "_law_one", "_law_spot", "_law_low", "_law_at", "_law_each"] ["_law_well_here", "_law_one"] (defScope sTurned) := ⟨rfl, rfl, rfl, by decide +kernel, rfl, by decide +kernel, by decide +kernel⟩
theorem ok_turned (D : Def K mg "_law_turned" sTurned ["_law_well_here", "_law_one"]) (nb : Nb mg) (c1 : Cal P w K mg base "_law_draw" 1 ["_law_well_here", "_law_few"] spDraw) (c2 : Cal P w K mg base "_law_small" 2 ["_law_well_here"] spInt) (c3 : Cal P w K mg base "_law_trim" 1 ["_law_some"] spTrimI) : Cal P w K mg base "_law_turned" 3 ["_law_well_here", "_law_one"] spTurned := by
  refine D.ok scTurned (fun vs H Q E h => ?_) (fun f cdv A out s H vs Q E hr h => ?_)
  · obtain ⟨a, u, r, rfl, _⟩ := h; rfl
  obtain ⟨a, u, r, rfl, hw, hu, lr, b6, q⟩ := h
  refine ⟨_, pss_cons (ps_set (i := 2) scTurned.nd rfl (Or.inl rfl) (pe_cal c1 hr (by decide) (by rfl) (pa_cons (pv 0) (pa_cons (pe_op op_add (pe_callB (id := "len") (r := rLn K) call_len_seq (by rfl) nb.len PySem.boot_len (pa_cons (pv 1) pa_nil)) pe_int) pa_nil))))
    (pss_cons (ps_set (i := 3) scTurned.nd rfl (Or.inl rfl) (pe_lst pa_nil))
    (pss_cons (ps_for PassesOwn.never rfl (pi_range1 (by rfl) nb.rng (pa_cons (pv 2) pa_nil)) (pg_name (i := 4) scTurned.nd rfl (Or.inl rfl))
        (pss_one (ps_expr (pe_bm PySem.F.plainAttrs_list PySem.F.slot_list_append PySem.F.type_list_append mt_append (pv 3) (pa_cons (pe_cal c2 hr (by decide) (by rfl) (pa_cons (pv 0) pa_nil)) pa_nil)))))
    (pss_one (ps_ret (pe_cal c3 hr (by decide) (by rfl) (pa_cons (pe_op op_cat (pv 3)
      (pe_lc (own := [("_law_each", 5)]) (g := gName 5) (tt := tYes) rfl scTurned.nd (pi_tup (pe_slice sl_tupA (pv 1) (po_some (pv 2)) po_none)) (blkOk_by (N := ["_law_well_here", "_law_one", "_law_spot", "_law_low", "_law_at", "_law_each"]) (sc := defScope sTurned) (by decide +kernel))
        (fun _ _ _ _ _ => pg_name (i := 5) scTurned.nd rfl (Or.inl rfl)) (fun _ _ _ _ _ => pts_nil) (fun _ _ _ _ _ => pe_op op_sub pe_int (pv 5)))) pa_nil)))))), ?_⟩
  walk_at "rd"
  obtain ⟨pu, rfl, eu⟩ := hu
  have npa : pu ≠ a := We.nt hw eu
  refine ⟨.ref a, rfl, .ref pu, rfl, pu, _, rfl, .inr (SqT.of eu), _, _, rfl, rfl, a, _, rfl, hw, by omega, by rw [List.length_map]; omega, fun d H1 d0 d1 k1 w1 => ?_⟩
  rw [List.length_map] at d1
  obtain ⟨n, rfl⟩ := Int.eq_ofNat_of_zero_le d0
  have hn : n ≤ r.length := by omega
  have e1 := k1 _ _ npa eu
  refine ⟨sz (by decide), fun L nL => ?_⟩
  have La : L ≠ a := w1.ne nL
  have w2 := we_new (o := .lst []) w1 nL
  have k2 : Kp a H1 (upd H1 L (.lst [])) := kp_new nL
  have nLH : ∀ {b o}, H1 b = some o → b ≠ L := fun {b o} e z => by rw [z, nL] at e; cases e
  refine ⟨.int n, rfl, (n : Int), rfl, by omega, by omega, for_rng (lo := 0) (n := (n : Int).toNat) (fun i σ H' => ∃ (x4 : Option V) (ns : List Int), σ = [some (.ref a), some (.ref pu), some (.int n), some (.ref L), x4, none] ∧ Kp a H H' ∧ We a H' ∧ H' pu = some (.tup (r.map V.int)) ∧ H' L = some (.lst (ns.map V.int)) ∧ ns.length = i ∧ B6 ns) ?_ ?_ ?_⟩
  · exact ⟨none, [], rfl, k1.trans k2, w2, k2 _ _ npa e1, upd_same, rfl, fun c hc => by cases hc⟩
  · rintro i σ H2 hi ⟨x4, ns, rfl, k2, w2, e2, eL, l2, b2⟩
    walk_at "rd"
    refine ⟨.ref L, rfl, .inl ⟨rfl, _, SqL.of eL⟩, .ref a, rfl, a, rfl, w2, fun j H3 jb k3 w3 => ⟨L, ns.map V.int, .int j, rfl, rfl, k3 _ _ La eL, ?_, ?_⟩⟩
    · rw [List.length_map]; exact lt_line (by omega)
    · have w4 : We a (upd H3 L (.lst (ns.map V.int ++ [.int j]))) := by obtain ⟨x, y, z, e⟩ := w3; exact ⟨x, y, z, by rw [upd_ne La.symm]; exact e⟩
      have e3 := k3 _ _ npa e2
      have puL : pu ≠ L := nLH e1
      refine ⟨some (.int (0 + (i : Int))), ns ++ [j], rfl, fun b o nb' eb => ?_, w4, by rw [upd_ne puL]; exact e3, by rw [upd_same, List.map_append]; rfl, by simp [l2], fun c hc => by
        rcases List.mem_append.mp hc with hc | hc
        · exact b2 c hc
        · rw [List.mem_singleton.mp hc]; exact jb⟩
      have hb := k3 _ _ nb' (k2 _ _ nb' eb)
      rw [upd_ne (nLH (k1 _ _ nb' eb))]
      exact hb
  · rintro σ H2 ⟨x4, ns, rfl, k2, w2, e2, eL, l2, b2⟩
    refine ⟨.ref L, rfl, ?_⟩
    refine lc_intsS (K := K) (r.drop n) (fun d => 0 - d) (fun R hR => ⟨.ref pu, rfl, .int n, rfl, ?_⟩) (by rw [List.length_drop]; omega) (fun x => wipeJ _ _ _) (fun d H3 hd s3 Z hZ => ⟨.int d, rfl, _, _, rfl, rfl, hZ⟩) fun D H3 s3 nD eD => ?_
    · refine ⟨n, rfl, ?_⟩
      walk_at "rd"
      exact sl_row n rfl e2 fun z H1 s1 ez => ⟨z, rfl, ⟨_, SqT.of ez⟩, hR z H1 s1 ez⟩
    · have ll : (ns ++ (r.drop n).map fun d => 0 - d).length = r.length := by
        rw [List.length_append, List.length_map, List.length_drop]
        omega
      refine ⟨L, D, _, _, rfl, rfl, s3 _ _ eL, eD, sz (by rw [List.length_map, List.length_map, List.length_map, List.length_drop]; omega), fun t nt => ?_⟩
      have s4 := same_new (o := .lst (ns.map V.int ++ ((r.drop n).map fun d => 0 - d).map V.int)) nt
      refine ⟨t, ns ++ (r.drop n).map (fun d => 0 - d), rfl, .inl (by rw [upd_same, List.map_append]), by omega, fun z H5 s5 r5 => ?_⟩
      have s25 := s3.trans (s4.trans s5)
      refine q z _ H5 (k2.trans (Kp.of s25)) (w2.to s25) r5 (okR_trim _) (Nat.le_trans (trimBy_len _ _) (by omega)) fun c hc => ?_
      rcases List.mem_append.mp (trimBy_mem _ _ hc) with h | h
      · exact b2 c h
      · obtain ⟨x, hx, rfl⟩ := List.mem_map.mp h
        have := b6 x (List.mem_of_mem_drop hx)
        omega
end
end K02

set_option Elab.async false
set_option linter.all false
set_option maxRecDepth 100000
set_option maxHeartbeats 8000000
local macro_rules | `(tactic| walk_at "rd") => `(tactic| dsimp only [Evl.tCut, L2.tSeq, L2.tNext, L2.tRet, L2.tRetN, L2.tAsg, L2.gName, L2.tIfS, L2.tDrop, L2.tCons, L2.tNil, L2.tC, L2.tVar, L2.tCB, L2.tAndV, L2.tOrV, L2.tNotV, L2.tB, L2.tTest, L2.tOp, L2.tUn, L2.tNot, L2.tAnd, L2.tOr, L2.tIf, L2.tCall, L2.tTup, L2.tLst, L2.tNotT, L2.tYes, L2.gTup, L2.gCons, L2.gNil, L2.gSub, L2.tBM0, L2.tBM, L2.tWhile, L2.tFor, L2.iRng1, L2.iRng2, L2.tAugS, Tw.iEnumT, L2.tCKw, L2.tAug, L2.ipI, RT.iRevA, L2.tPar, L2.tPar3, L2.tSl, L2.tNoPart, L2.tPart, Tw.tRevT])
namespace K02
open PySem PySem.Spec PyProof.Rows L2 Tw
def litList (e : Expr) : List PyData := match litOf e with
  | some (.tuple ds) => ds
  | _ => []
def litB (e : Expr) : Bool := match litOf e with
  | some (.tuple ds) => ds.all (smB 4 10) && decide (0 < ds.length) && decide (ds.length < 900)
  | _ => false
theorem lit_eq {e : Expr} (h : litB e = true) : litOf e = some (.tuple (litList e)) ∧ (litList e).all (smB 4 10) = true ∧ 0 < (litList e).length ∧ (litList e).length < 900 := by
  unfold litB at h
  unfold litList
  split at h
  · rename_i ds hd
    rw [Bool.and_eq_true, Bool.and_eq_true] at h
    rw [hd]
    exact ⟨rfl, h.1.1, of_decide_eq_true h.1.2, of_decide_eq_true h.2⟩
  · cases h
def spOdd : Sp := fun vs H Q _ => ∃ a, vs = [.ref a] ∧ We a H ∧ ∀ v d H', Kp a H H' → We a H' → Da a H' v d → Sm 4 10 d → Q v H'
def spBent (N : Nat) : Sp := fun vs H Q _ => ∃ a v d n m, vs = [.ref a, v] ∧ We a H ∧ Da a H v d ∧ Sm n m d ∧ n < N ∧ 10 ≤ m ∧ m ≤ 500 ∧
  ∀ v' d' H', Kp a H H' → We a H' → Da a H' v' d' → Sm (n + 5) (m + 1) d' → Q v' H'
section
variable {P : Program} {w : World} {K : PySem.W.Frag} {mg : Str → Option Value} {base : Heap}
theorem scOdd : FnScope ["_law_well_here"] ["_law_well_here"] (defScope sOdd) := ⟨rfl, rfl, rfl, by decide +kernel, rfl, by decide +kernel, by decide +kernel⟩
theorem ok_odd (D : Def K mg "_law_odd" sOdd ["_law_well_here"]) (c1 : Cal P w K mg base "_law_pick" 2 ["_law_well_here", "_law_some"] spPick) : Cal P w K mg base "_law_odd" 3 ["_law_well_here"] spOdd := by
  refine D.ok scOdd (fun vs H Q E h => ?_) (fun f cdv A out s H vs Q E hr h => ?_)
  · obtain ⟨a, rfl, _⟩ := h; rfl
  obtain ⟨a, rfl, hw, q⟩ := h
  have main : ∀ (e : Expr) (t : TE), litB e = true → t = tCall spPick [] E0 (tCons (tVar 0) (tCons (tLit (.tuple (litList e))) tNil)) → t (start ["_law_well_here"] [.ref a]) H Q := by
    rintro e t hb rfl
    obtain ⟨_, ha, h0, h1⟩ := lit_eq hb
    walk_at "rd"
    refine ⟨.ref a, rfl, a, hw.some, fun v H1 s1 dv => ?_⟩
    obtain ⟨p, xs, rfl, np, hp, hx⟩ := da_tup dv
    have l := hx.len
    refine ⟨a, p, xs, rfl, hw.to s1, np, hp, fun z => by rw [z] at l; simp at l; omega, by omega, fun i x H2 hi k2 w2 => ?_⟩
    obtain ⟨d, e1, e2⟩ := hx.get hi
    exact q x d H2 ((Kp.of s1).trans k2) w2 (e2.kp k2) (sm_of (List.all_eq_true.mp ha d (List.mem_of_getElem? e1)))
  have hb : litB (match defBody sOdd with | [.Return (some (.Call _ [_, e] _ _)) _] => e | _ => .Constant .none 0 ⟨0, 0, 0, 0⟩) = true := by decide +kernel
  exact ⟨_, pss_one (ps_ret (pe_cal c1 hr (by decide) (by rfl) (pa_cons (pv 0) (pa_cons (pe_lit _ (lit_eq hb).1) pa_nil)))), main _ _ hb rfl⟩
theorem scBent : FnScope ["_law_well_here", "_law_thing", "_law_spot", "_law_branch"] ["_law_well_here", "_law_thing"] (defScope sBent) := ⟨rfl, rfl, rfl, by decide +kernel, rfl, by decide +kernel, by decide +kernel⟩
theorem isT_dict {d : PyData} : isTupD d = true → ∃ ds, d = .tuple ds := fun h => by
  cases d <;> first | exact ⟨_, rfl⟩ | cases h
theorem bent_step {N : Nat} (D : Def K mg "_law_bent" sBent ["_law_well_here", "_law_thing"]) (nb : Nb mg) (c1 : Cal P w K mg base "_law_draw" 1 ["_law_well_here", "_law_few"] spDraw)
    (c2 : Cal P w K mg base "_law_odd" 3 ["_law_well_here"] spOdd) (c3 : Cal P w K mg base "_law_bent" (N + 3) ["_law_well_here", "_law_thing"] (spBent N)) : Cal P w K mg base "_law_bent" (N + 4) ["_law_well_here", "_law_thing"] (spBent (N + 1)) := by
  refine D.ok scBent (fun vs H Q E h => ?_) (fun f cdv A out s H vs Q E hr h => ?_)
  · obtain ⟨a, v, d, n, m, rfl, _⟩ := h; rfl
  obtain ⟨a, v, d, n, m, rfl, hw, hd, hs, hN, m0, m1, q⟩ := h
  refine ⟨_, Evl.pss_cut (ps_if (PW.pt (pw_and (pt_val (pe_callB (id := "isinstance") (r := rIsi K) call_isi (by rfl) nb.isi (by decide +kernel) (pa_cons (pv 1) (pa_cons (pe_bltn (v := .ty "tuple") (by rfl) nb.tup (by decide +kernel) rfl) pa_nil))))
        (pw_and (pt_cmpR (op_neT0 hr.units) (pv 1) (pe_tup pa_nil) (nomark _)) (pw_and1 (pt_cmpR op_gt (pe_cal c1 hr (by omega) (by rfl) (pa_cons (pv 0) (pa_cons pe_int pa_nil))) pe_int (nomark _))))))
      (pss_cons (ps_set (i := 2) scBent.nd rfl (Or.inl rfl) (pe_cal c1 hr (by omega) (by rfl) (pa_cons (pv 0) (pa_cons (pe_callB (id := "len") call_len_seq (by rfl) nb.len PySem.boot_len (pa_cons (pv 1) pa_nil)) pa_nil))))
        (pss_one (ps_ret (pe_op op_catA (pe_op op_catA (pe_slice sl_tupA (pv 1) po_none (po_some (pv 2)))
          (pe_tup (pa_cons (pe_cal c3 hr (by omega) (by rfl) (pa_cons (pv 0) (pa_cons (pe_ix ix_tup (pv 1) (pv 2) (fun _ _ => rfl)) pa_nil))) pa_nil)))
          (pe_slice sl_tupA (pv 1) (po_some (pe_op op_add (pv 2) pe_int)) po_none))))) pss_nil)
    (pss_cons (ps_set (i := 3) scBent.nd rfl (Or.inl rfl) (pe_cal c1 hr (by omega) (by rfl) (pa_cons (pv 0) (pa_cons pe_int pa_nil))))
    (pss_cons (ps_if (PW.pt (pw_and (pt_val (pe_callB (id := "isinstance") (r := rIsi K) call_isi (by rfl) nb.isi (by decide +kernel) (pa_cons (pv 1) (pa_cons (pe_bltn (v := .ty "tuple") (by rfl) nb.tup (by decide +kernel) rfl) pa_nil))))
        (pw_and1 (pt_cmpR op_lt (pv 3) pe_int (nomark _)))))
      (pss_one (ps_ret (pe_ix ix_tup (pe_tup
          (pa_cons (pe_callTy (T := "list") call_list_of (by rfl) nb.lst (by decide +kernel) (pa_cons (pv 1) pa_nil))
          (pa_cons (pe_slice sl_tupA (pv 1) po_none (po_some (pe_un un_neg pe_int)))
          (pa_cons (pe_op op_catA (pv 1) (pe_slice sl_tupA (pv 1) (po_some (pe_un un_neg pe_int)) po_none))
          (pa_cons (pe_revT (pv 1))
          (pa_cons (pe_slice sl_tupA (pv 1) (po_some pe_int) po_none)
          (pa_cons (pe_op op_catA (pe_slice sl_tupA (pv 1) po_none (po_some pe_int)) (pv 1)) pa_nil))))))) (pv 3) (fun _ _ => rfl)))) pss_nil)
    (pss_cons (ps_if (PW.pt (pw_and (pt_val (pe_callB (id := "isinstance") (r := rIsi K) call_isi (by rfl) nb.isi (by decide +kernel) (pa_cons (pv 1) (pa_cons (pe_bltn (v := .ty "int") (by rfl) nb.int (by decide +kernel) rfl) pa_nil))))
        (pw_and1 (pt_cmpR op_lt (pv 3) pe_int (nomark _)))))
      (pss_one (ps_ret (pe_ix ix_tup (pe_tup (pa_cons (pe_op op_addNl (pv 1) pe_int) (pa_cons (pe_op op_subNr pe_int (pv 1)) (pa_cons (pe_op op_mulNr pe_int (pv 1)) (pa_cons (pe_op op_subNl (pv 1) pe_int)
        (pa_cons (pe_cmpR op_eqNl (pv 1) pe_int (nomark _)) pa_nil)))))) (pv 3) (fun _ _ => rfl)))) pss_nil)
    (pss_one (ps_ret (pe_cal c2 hr (by omega) (by rfl) (pa_cons (pv 0) pa_nil))))))), ?_⟩
  walk_at "rd"
  refine ⟨fun σ' H' => σ' = [some (.ref a), some v, none, none] ∧ Kp a H H' ∧ We a H', ⟨v, rfl, isi hd (isi_tup d) ⟨isTupD d, rfl, ?_⟩⟩, ?_⟩
  · -- the first question
    cases ht : isTupD d with
    | false => exact iteF (iteF ⟨rfl, Kp.refl a H, hw⟩)
    | true =>
      obtain ⟨ds, rfl⟩ := isT_dict ht
      obtain ⟨p, xs, rfl, np, hp, hx⟩ := da_tup hd
      refine iteT ⟨.ref p, rfl, sz (by decide), fun t nt => ?_⟩
      have s1 := same_new (o := .tup []) nt
      refine ⟨p, t, xs, [], rfl, rfl, SqT.of (s1 _ _ hp), SqT.of upd_same, rfl, _, rfl, ?_⟩
      rw [if_pos rfl, empty_iff hx]
      cases hds : ds.isEmpty with
      | true => exact iteF (iteF ⟨rfl, Kp.of s1, hw.to s1⟩)
      | false =>
        refine iteT ⟨.ref a, rfl, a, _, rfl, hw.to s1, by decide, by decide, fun r H1 r0 r1 k1 w1 => ?_⟩
        have k1 := (Kp.of s1).trans k1
        refine ⟨r, 0, rfl, rfl, _, rfl, ?_⟩
        refine ite2 (fun c => ?_) (fun c => ⟨rfl, k1, w1⟩)
        have l0 : 0 < ds.length := by cases ds with
          | nil => cases hds
          | cons _ _ => simp
        have lm := hs.len
        have lx := hx.len
        refine ⟨.ref a, rfl, .ref p, rfl, p, xs, rfl, .inr (SqT.of (k1 _ _ np hp)), a, _, rfl, w1, by omega, by omega, fun i H2 i0 i1 k2 w2 => ?_⟩
        obtain ⟨j, rfl⟩ := Int.eq_ofNat_of_zero_le i0
        have hj : j < ds.length := by omega
        have k2 := k1.trans k2
        refine ⟨.ref p, rfl, .int j, rfl, (j : Int), rfl, ?_⟩
        refine sl_da w2.some (hd.kp k2) fun v1 H3 s3 d1 => ?_
        have k3 := k2.trans (Kp.of s3)
        refine ⟨.ref a, rfl, .ref p, rfl, .int j, rfl, ?_⟩
        refine ix_da (hd.kp k3) i0 (by omega) fun x dx hm dxx => ?_
        refine ⟨a, x, dx, n - 1, m, rfl, w2.to s3, dxx, hs.mem hm, by have := hs.dep1; omega, m0, m1, fun v2 d2 H4 k4 w4 e2 t2 => ?_⟩
        have k4' := k3.trans k4
        refine ⟨sz (by simp), fun pH5 nH5 => ?_⟩
        obtain ⟨s5, d3⟩ := newT w4.some (.cons e2 .nil) nH5
        generalize upd _ pH5 _ = H5 at s5 d3 ⊢
        have k5 := k4'.trans (Kp.of s5)
        have lu := cut_upto ds j
        refine cat_da (w4.to s5).some ((d1.kp k4).same s5) d3 (by simp; omega) fun v4 H6 s6 d4 => ?_
        have k6 := k5.trans (Kp.of s6)
        refine ⟨.ref p, rfl, .int j, rfl, j, 1, rfl, rfl, (j : Int) + 1, rfl, ?_⟩
        have ej : ((j : Int) + 1) = ((j + 1 : Nat) : Int) := by omega
        refine sl_da ((w4.to s5).to s6).some (hd.kp k6) fun v5 H7 s7 d5 => ?_
        have lf := cut_from ds (j + 1)
        rw [ej] at d5
        obtain ⟨c5, hc5⟩ : ∃ c, c = Tw.cutD ds (some ((j + 1 : Nat) : Int)) none := ⟨_, rfl⟩
        rw [← hc5] at d5 lf
        refine cat_da (((w4.to s5).to s6).to s7).some (d4.same s7) d5 (by simp; omega) fun v6 H8 s8 d6 => ?_
        refine q v6 _ H8 ((k6.trans (Kp.of s7)).trans (Kp.of s8)) ((((w4.to s5).to s6).to s7).to s8) d6 ?_
        have n1 := hs.dep1
        refine sm_sub hs (by simp; omega) (by omega) (by omega) fun e he => ?_
        rcases List.mem_append.mp he with he | he
        · rcases List.mem_append.mp he with he | he
          · exact .inl (cut_mem he)
          · rw [List.mem_singleton.mp he]; exact .inr (t2.up (by omega) (Nat.le_refl _))
        · rw [hc5] at he; exact .inl (cut_mem he)
  · -- the rest
    rintro σ' H1 ⟨rfl, k1, w1⟩
    have hd1 := hd.kp k1
    refine ⟨.ref a, rfl, a, _, rfl, w1, by decide, by decide, fun r H2 r0 r1 k2 w2 => ?_⟩
    have k2 := k1.trans k2
    have hd2 := hd.kp k2
    have odd : ∀ H3, Kp a H H3 → We a H3 → spOdd ([.ref a] ++ []) H3 Q E0 := fun H3 k3 w3 => ⟨a, rfl, w3, fun v' d' H4 k4 w4 e4 t4 => q v' d' H4 (k3.trans k4) w4 e4 (t4.up (by omega) (by omega))⟩
    refine ⟨v, rfl, isi hd2 (isi_tup d) ⟨isTupD d, rfl, ?_⟩⟩
    cases ht : isTupD d with
    | true =>
      obtain ⟨ds, rfl⟩ := isT_dict ht
      refine iteT ⟨.int r, rfl, r, 6, rfl, rfl, _, rfl, ite2 (fun c => ?_) (fun c => ?_)⟩
      · have c := of_decide_eq_true c
        have lm := hs.len
        have n1 := hs.dep1
        obtain ⟨p, xs, rfl, np, hp, hx⟩ := da_tup hd2
        refine ⟨.ref p, rfl, p, xs, rfl, .inr (SqT.of hp), fun q0 n0 => ?_⟩
        obtain ⟨s3, d0⟩ := newL w2.some hx n0
        generalize upd _ q0 _ = H3 at s3 d0 ⊢
        have w3 := w2.to s3
        have k3 := k2.trans (Kp.of s3)
        refine ⟨.ref p, rfl, 1, rfl, -1, rfl, sl_da w3.some (hd.kp k3) fun v1 H4 s4 d1 => ?_⟩
        have w4 := w3.to s4
        have k4 := k3.trans (Kp.of s4)
        refine ⟨.ref p, rfl, .ref p, rfl, 1, rfl, -1, rfl, sl_da w4.some (hd.kp k4) fun v2a H5 s5 d2a => ?_⟩
        have w5 := w4.to s5
        have k5 := k4.trans (Kp.of s5)
        have l2 : (Tw.cutD ds (some (-1)) none).length ≤ 1 := by
          unfold Tw.cutD
          rw [List.length_take, List.length_drop]
          have e : HT.sIx ds.length 0 (some (-1)) = ((-1 : Int) + (ds.length : Int)).toNat := by unfold HT.sIx; rfl
          rw [e]
          omega
        refine cat_da w5.some (hd.kp k5) d2a (by omega) fun v2 H6 s6 d2 => ?_
        have w6 := w5.to s6
        have k6 := k5.trans (Kp.of s6)
        obtain ⟨r6, ys, er, nr, hr6, hy⟩ := da_tup (hd.kp k6)
        cases er
        refine ⟨.ref p, rfl, p, ys, rfl, SqT.of hr6, fun q3 n3 => ?_⟩
        obtain ⟨s7, d3⟩ := newT w6.some hy.rev n3
        generalize upd _ q3 _ = H7 at s7 d3 ⊢
        have w7 := w6.to s7
        have k7 := k6.trans (Kp.of s7)
        refine ⟨.ref p, rfl, 1, rfl, sl_da w7.some (hd.kp k7) fun v4 H8 s8 d4 => ?_⟩
        have w8 := w7.to s8
        have k8 := k7.trans (Kp.of s8)
        refine ⟨.ref p, rfl, 1, rfl, sl_da w8.some (hd.kp k8) fun v5a H9 s9 d5a => ?_⟩
        have w9 := w8.to s9
        have k9 := k8.trans (Kp.of s9)
        have l5 : (Tw.cutD ds none (some 1)).length ≤ 1 := by
          have := cut_upto ds 1
          rw [show ((1 : Nat) : Int) = 1 from rfl] at this
          omega
        refine ⟨.ref p, rfl, cat_da w9.some d5a (hd.kp k9) (by omega) fun v5 H10 s10 d5 => ?_⟩
        have w10 := w9.to s10
        have k10 := k9.trans (Kp.of s10)
        have z9 := s9.trans s10
        have z8 := s8.trans z9
        have z7 := s7.trans z8
        have z6 := s6.trans z7
        have z5 := s5.trans z6
        have z4 := s4.trans z5
        refine ⟨sz (by simp), fun pH14 nH14 => ?_⟩
        obtain ⟨s14, dd⟩ := newT w10.some (.cons (d0.same z4) (.cons (d1.same z5) (.cons (d2.same z7) (.cons (d3.same z8) (.cons (d4.same z9) (.cons d5 .nil)))))) nH14
        generalize upd _ pH14 _ = H14 at s14 dd ⊢
        refine ⟨.int r, rfl, ix_da dd r0 (by simp; omega) fun x dx hm dxx => ?_⟩
        refine q x dx H14 (k10.trans (Kp.of s14)) (w10.to s14) dxx ?_
        have cut1 := cut_le ds none (some (-1))
        have cut2 := cut_le ds (some 1) none
        simp only [List.mem_cons, List.not_mem_nil, or_false] at hm
        rcases hm with rfl | rfl | rfl | rfl | rfl | rfl
        · exact sm_subL hs (by omega) (by omega) (by omega) fun e he => .inl he
        · exact sm_sub hs (by omega) (by omega) (by omega) fun e he => .inl (cut_mem he)
        · exact sm_sub hs (by simp; omega) (by omega) (by omega) fun e he => (List.mem_append.mp he).elim .inl fun z => .inl (cut_mem z)
        · exact sm_sub hs (by simp; omega) (by omega) (by omega) fun e he => .inl (List.mem_reverse.mp he)
        · exact sm_sub hs (by omega) (by omega) (by omega) fun e he => .inl (cut_mem he)
        · exact sm_sub hs (by simp; omega) (by omega) (by omega) fun e he => (List.mem_append.mp he).elim (fun z => .inl (cut_mem z)) .inl
      · refine ⟨v, rfl, isi hd2 (isi_int _) ⟨false, rfl, iteF (iteF ⟨.ref a, rfl, odd H2 k2 w2⟩)⟩⟩
    | false =>
      refine iteF (iteF ⟨v, rfl, isi hd2 (isi_int d) ⟨isIntD d, rfl, ?_⟩⟩)
      cases hi : isIntD d with
      | false => exact iteF (iteF ⟨.ref a, rfl, odd H2 k2 w2⟩)
      | true =>
        refine iteT ⟨.int r, rfl, r, 5, rfl, rfl, _, rfl, ite2 (fun c => ?_) (fun c => ⟨.ref a, rfl, odd H2 k2 w2⟩)⟩
        have c := of_decide_eq_true c
        obtain ⟨i, hn⟩ := nu_of hd2 hi
        refine ⟨v, rfl, i, 1, hn, rfl, v, rfl, 0, i, rfl, hn, v, rfl, 2, i, rfl, ⟨by decide, by decide⟩, hn, v, rfl, i, 2, hn, rfl, v, rfl, i, 1, hn, rfl, ?_⟩
        refine ⟨sz (by simp), fun pH4 nH4 => ?_⟩
        obtain ⟨s4, dd⟩ := newT w2.some (.cons (.int _) (.cons (.int _) (.cons (.int _) (.cons (.int _) (.cons (.bl _) .nil))))) nH4
        generalize upd _ pH4 _ = H4 at s4 dd ⊢
        refine ⟨.int r, rfl, ix_da dd r0 (by simp; omega) fun x dx hm dxx => ?_⟩
        refine q x dx H4 (k2.trans (Kp.of s4)) (w2.to s4) dxx ?_
        simp only [List.mem_cons, List.not_mem_nil, or_false] at hm
        rcases hm with rfl | rfl | rfl | rfl | rfl
        · exact sm_int _ _ _
        · exact sm_int _ _ _
        · exact sm_int _ _ _
        · exact sm_int _ _ _
        · exact sm_bl _ _ _
theorem bent_all (D : Def K mg "_law_bent" sBent ["_law_well_here", "_law_thing"]) (nb : Nb mg) (c1 : Cal P w K mg base "_law_draw" 1 ["_law_well_here", "_law_few"] spDraw)
    (c2 : Cal P w K mg base "_law_odd" 3 ["_law_well_here"] spOdd) : ∀ N : Nat, Cal P w K mg base "_law_bent" (N + 3) ["_law_well_here", "_law_thing"] (spBent N)
  | 0 => by
    have no : ∀ vs H Q E, ¬ spBent 0 vs H Q E := fun vs H Q E h => by
      obtain ⟨a, v, d, n, m, _, _, _, _, h1, _⟩ := h
      omega
    obtain ⟨f, fd, F, m, b⟩ := D
    exact ⟨f, fd, ⟨fun vs H Q E h => absurd h (no vs H Q E), fun A out s H g us vs Q E _ _ _ _ h => absurd h (no vs H Q E)⟩, m, F.kp, b, fdAt F⟩
  | N + 1 => bent_step D nb c1 c2 (bent_all D nb c1 c2 N)

end
end K02

set_option Elab.async false
set_option linter.all false
set_option maxRecDepth 100000
set_option maxHeartbeats 4000000
local macro_rules | `(tactic| walk_at "rd") => `(tactic| dsimp only [Evl.tCut, L2.tSeq, L2.tNext, L2.tRet, L2.tRetN, L2.tAsg, L2.gName, L2.tIfS, L2.tDrop, L2.tCons, L2.tNil, L2.tC, L2.tVar, L2.tCB, L2.tAndV, L2.tOrV, L2.tNotV, L2.tB, L2.tTest, L2.tOp, L2.tUn, L2.tNot, L2.tAnd, L2.tOr, L2.tIf, L2.tCall, L2.tTup, L2.tLst, L2.tNotT, L2.tYes, L2.gTup, L2.gCons, L2.gNil, L2.gSub, L2.tBM0, L2.tBM, L2.tWhile, L2.tFor, L2.iRng1, L2.iRng2, L2.tAugS, Tw.iEnumT, L2.tCKw, L2.tAug, L2.ipI, RT.iRevA, L2.tPar, L2.tPar3, L2.tSl, L2.tNoPart, L2.tPart, Tw.tRevT])
namespace K02
open PySem PySem.Spec PyProof.Rows L2 Tw
def rGetL (K : PySem.W.Frag) : V → V → Hp → VK → Prop := fun o i H Q => ∃ (p : Addr) (xs : List V) (j : Nat) (x : V), o = .ref p ∧ i = .int (j : Int) ∧ SqL K H p xs ∧ xs[j]? = some x ∧ Q x H
section
variable {X : Cx}
theorem get_l : PGet X (rGetL X.K) := by
  intro pins s σ H o i ov iv Q I ro ri h
  obtain ⟨p, xs, j, x, rfl, rfl, hq, hx, q⟩ := h
  cases ro
  obtain ⟨t, rfl⟩ := ri
  obtain ⟨its, r, pl, hz⟩ := I.list hq
  obtain ⟨w, ew, rw'⟩ := r.get hx
  have hl := r.length
  have hj : j < its.length := (List.getElem?_eq_some_iff.mp ew).1
  have hn := line63
  exact wpAny_getItem_list (x := w) pl.isList (by omega) (by omega) (by rw [Int.toNat_natCast]; simpa using ew) ⟨x, H, I, rw', q⟩
end
def spTrimL : Sp := fun vs H Q _ => ∃ p l, vs = [.ref p] ∧ H p = some (.lst (l.map V.int)) ∧ ∀ v H', Same H H' → Ro H' v (trimI l) → Q v H'
def spAddR : Sp := fun vs H Q _ => ∃ u v r s, vs = [u, v] ∧ Ro H u r ∧ Ro H v s ∧ r.length ≤ 100 ∧ s.length ≤ 100 ∧ ∀ z t H', Same H H' → Ro H' z t → okR t → (∀ k, g t k = g r k + g s k) → Q z H'
def spMulR : Sp := fun vs H Q _ => ∃ u v r s, vs = [u, v] ∧ Ro H u r ∧ Ro H v s ∧ okR r ∧ okR s ∧ r.length ≤ 100 ∧ s.length ≤ 100 ∧ min r.length s.length ≤ 6 ∧ CM r s ∧ ∀ z t H', Same H H' → Ro H' z t → okR t → (∀ k, g t k = cv (g r) (g s) k) → Q z H'
def spScR : Sp := fun vs H Q _ => ∃ u r c, vs = [u, .int c] ∧ Ro H u r ∧ okR r ∧ r.length ≤ 100 ∧ c.natAbs < 2 ^ 64 ∧ ∀ z t H', Same H H' → Ro H' z t → okR t → (∀ k, g t k = c * g r k) → Q z H'
def spFrac : Sp := fun vs H Q _ => ∃ v n m, vs = [v] ∧ Pr H v n m ∧ 0 < m ∧ Nat.gcd n.natAbs m.natAbs = 1 ∧ ∀ H', Same H H' → Q (.bl true) H'
def spPower : Sp := fun vs H Q _ => ∃ (m : Int) (k : Nat), vs = [.int m, .int (k : Int)] ∧ 0 < m ∧ m ≤ 7 ∧ k ≤ 8 ∧ ∀ H', Same H H' → Q (.int (m ^ k)) H'
def spScaled : Sp := fun vs H Q _ => ∃ u r n m, vs = [u, .int n, .int m] ∧ Ro H u r ∧ n.natAbs ≤ 1000000 ∧ 0 < m ∧ m ≤ 7 ∧ r.length ≤ 8 ∧ ∀ H', Same H H' → Q (.int (T n m r)) H'
def spShared : Sp := fun vs H Q _ => ∃ p l, vs = [.ref p] ∧ H p = some (.tup (l.map V.int)) ∧ ∀ H', Same H H' → Q (.int (G 0 l : Nat)) H'
def spDivided : Sp := fun vs H Q _ => ∃ u r c, vs = [u, .int c] ∧ Ro H u r ∧ r.length ≤ 100 ∧ (r ≠ [] → CDivN 0 c) ∧ ∀ z H', Same H H' → Ro H' z (r.map fun x => x.fdiv c) → Q z H'
def spLess : Sp := fun vs H Q _ => ∃ u v r s, vs = [u, v] ∧ Ro H u r ∧ Ro H v s ∧ okR s ∧ r.length ≤ 100 ∧ s.length ≤ 100 ∧ ∀ z t H', Same H H' → Ro H' z t → okR t → (∀ k, g t k = g r k + (-1) * g s k) → Q z H'
def spDeriv : Sp := fun vs H Q _ => ∃ u r, vs = [u] ∧ Ro H u r ∧ okR r ∧ r.length ≤ 100 ∧ ∀ z t H', Same H H' → Ro H' z t → okR t → (∀ k, g t k = ((k + 1 : Nat) : Int) * g r (k + 1)) → Q z H'
def spRVal : Sp := fun vs H Q _ => ∃ u v r n m, vs = [u, v] ∧ Ro H u r ∧ Pr H v n m ∧ Sp2 n m ∧ r.length ≤ 8 ∧ ∀ z a b H', Same H H' → Pr H' z a b → Lo a b (T n m r) (m ^ (r.length - 1)) → Q z H'
theorem okR_scaled {r : List Int} {c : Int} (h : okR r) (n : c ≠ 0) : okR (r.map fun x => c * x) := fun d hd => by
  rw [List.getLast?_map] at hd
  cases e : r.getLast? with
  | none => rw [e] at hd; cases hd
  | some x =>
    rw [e] at hd
    cases hd
    exact Int.mul_ne_zero n (h x e)
theorem pow_turn {b f : Int} {k : Nat} : (if k % 2 = 1 then f * b else f) * (b * b) ^ (k / 2) = f * b ^ k := by
  have e : b ^ k = (b * b) ^ (k / 2) * b ^ (k % 2) := by
    conv => lhs; rw [← Nat.div_add_mod k 2]
    rw [Int.pow_add, Int.pow_mul]
    congr 2
    rw [Int.pow_succ, Int.pow_succ, Int.pow_zero, Int.one_mul]
  rcases Nat.mod_two_eq_zero_or_one k with z | z
  · rw [if_neg (by omega), e, z, Int.pow_zero, Int.mul_one]
  · rw [if_pos z, e, z]
    rw [show b ^ 1 = b from by rw [Int.pow_succ, Int.pow_zero, Int.one_mul]]
    grind
theorem cut_to {α : Type} (xs : List V) {m : Nat} (h : m ≤ xs.length) : L2.cutV xs none (some (m : Int)) = xs.take m := by
  unfold L2.cutV
  rw [HT.sIx_nat, HT.sIx_none, List.drop_zero, Nat.sub_zero, Nat.min_eq_left h]
section
variable {P : Program} {w : World} {K : PySem.W.Frag} {mg : Str → Option Value} {base : Heap}
theorem scTrimmed : FnScope ["numbers", "last"] ["numbers"] (defScope sTrimmed) := ⟨rfl, rfl, rfl, by decide +kernel, rfl, by decide +kernel, by decide +kernel⟩
theorem ok_trimmed (D : Def K mg "trimmed" sTrimmed ["numbers"]) (nb : Nb mg) : Cal P w K mg base "trimmed" 1 ["numbers"] spTrimL := by
  refine D.ok scTrimmed (fun vs H Q E h => ?_) (fun f cdv A out s H vs Q E hr h => ?_)
  · obtain ⟨p, l, rfl, _⟩ := h; rfl
  obtain ⟨p, l, rfl, e, q⟩ := h
  refine ⟨_, pss_cons (ps_set (i := 1) scTrimmed.nd rfl (Or.inl rfl) (pe_callB (id := "len") (r := rLn K) call_len_seq (by rfl) nb.len PySem.boot_len (pa_cons (pv 0) pa_nil)))
    (pss_cons (ps_while PassesOwn.never (PW.pt (pw_and (pt_truth (pv 1) (fun _ => rfl)) (pw_and1 (pt_cmpR op_eq (pe_ix ix_list (pv 0) (pe_op op_sub (pv 1) pe_int) (fun _ _ => rfl)) pe_int (nomark _)))))
      (pss_one (ps_aug (i := 1) scTrimmed.nd rfl (Or.inl rfl) pe_int ip_sub)))
    (pss_one (ps_ret (pe_callTy (T := "tuple") call_tuple_of (by rfl) nb.tup (by decide +kernel) (pa_cons (pe_slice sl_list (pv 0) po_none (po_some (pv 1))) pa_nil))))), ?_⟩
  walk_at "rd"
  refine ⟨.ref p, rfl, p, _, rfl, .inl (SqL.of e), ?_⟩
  have hz0 : ∀ (i : Nat) a, l.length ≤ i → l[i]? = some a → (a == 0) = true := by
    intro i a hi ea
    rw [List.getElem?_eq_none hi] at ea
    cases ea
  refine ⟨fun m σ H' => m ≤ l.length ∧ (∀ (i : Nat) a, m ≤ i → l[i]? = some a → (a == 0) = true) ∧ σ = [some (.ref p), some (.int (m : Int))] ∧ H' = H, ⟨l.length, Nat.le_refl _, hz0, by rw [List.length_map]; rfl, rfl⟩, ?_⟩
  rintro m σ H1 ⟨hm, hz, rfl, rfl⟩
  refine ⟨.int m, rfl, _, rfl, ?_⟩
  have fin : (m = 0 ∨ ∃ a, l[m - 1]? = some a ∧ (a == 0) = false) → ∃ v, [some (V.ref p), some (V.int (m : Int))][0]? = some (some v) ∧ ∃ v1, [some (V.ref p), some (V.int (m : Int))][1]? = some (some v1) ∧ ∃ b, v1 = V.int b ∧ rSlL K v none (some b) H1 fun x H2 => ∃ q' ys, [x] = [.ref q'] ∧ ((SqL K H2 q' ys ∧ ∀ t, H2 t = none → Q (.ref t) (upd H2 t (.tup ys))) ∨ (SqT K H2 q' ys ∧ Q (.ref q') H2)) := fun hb => by
    refine ⟨.ref p, rfl, .int m, rfl, m, rfl, p, _, rfl, SqL.of e, fun t nt => ⟨t, _, rfl, .inl ⟨SqL.of upd_same, fun t2 nt2 => ?_⟩⟩⟩
    refine q _ _ ((same_new nt).trans (same_new nt2)) ⟨t2, rfl, ?_⟩
    rw [upd_same, cut_to (α := Nat) _ (by rw [List.length_map]; exact hm), ← List.map_take]
    congr 3
    exact (trimBy_take _ l m hm hz hb).symm
  by_cases c : m = 0
  · subst c
    exact iteF (fin (.inl rfl))
  rw [show ((m : Int) != 0) = true from bne_iff_ne.mpr (by omega)]
  obtain ⟨j, rfl⟩ : ∃ j, m = j + 1 := ⟨m - 1, by omega⟩
  have hj : j < l.length := by omega
  have ej : ((j + 1 : Nat) : Int) - 1 = (j : Int) := by omega
  refine iteT ⟨.ref p, rfl, .int (j + 1 : Nat), rfl, _, _, rfl, rfl, ?_⟩
  walk_at "rd"
  rw [ej]
  refine ⟨p, _, _, .int l[j], rfl, rfl, SqL.of e, atI_nat (by rw [List.getElem?_map, List.getElem?_eq_getElem hj]; rfl), rfl, _, rfl, ?_⟩
  rw [dec_int]
  cases z : (l[j] == 0) with
  | true =>
    refine iteT ⟨fun σ' H' => σ' = [some (.ref p), some (.int (j : Int))] ∧ H' = H1, fun σ' H' h => ⟨j, by omega, by omega, fun i a hi ea => ?_, h.1, h.2⟩, .int (j + 1 : Nat), rfl, _, _, rfl, rfl, ?_, rfl⟩
    · rcases Nat.lt_or_eq_of_le hi with y | y
      · exact hz i a y ea
      · subst y
        rw [List.getElem?_eq_getElem hj] at ea
        cases ea
        exact z
    · show [some (V.ref p), some (V.int (((j + 1 : Nat) : Int) - 1))] = _
      rw [ej]
  | false => exact iteF (fin (.inr ⟨l[j], List.getElem?_eq_getElem hj, z⟩))
theorem scScaled : FnScope ["row", "n", "m", "total", "factor", "number"] ["row", "n", "m"] (defScope sScaled) := ⟨rfl, rfl, rfl, by decide +kernel, rfl, by decide +kernel, by decide +kernel⟩
theorem ok_scaled (D : Def K mg "scaled_value" sScaled ["row", "n", "m"]) (nb : Nb mg) : Cal P w K mg base "scaled_value" 1 ["row", "n", "m"] spScaled := by
  refine D.ok scScaled (fun vs H Q E h => ?_) (fun f cdv A out s H vs Q E hr h => ?_)
  · obtain ⟨u, r, n, m, rfl, _⟩ := h; rfl
  obtain ⟨u, r, n, m, rfl, hu, n1, m0, m1, hl, q⟩ := h
  refine ⟨_, pss_cons (ps_set (i := 3) scScaled.nd rfl (Or.inl rfl) pe_int) (pss_cons (ps_set (i := 4) scScaled.nd rfl (Or.inl rfl) pe_int)
    (pss_cons (ps_for PassesOwn.never rfl (RT.pi_revA (by rfl) nb.rev (pv 0)) (pg_name (i := 5) scScaled.nd rfl (Or.inl rfl))
      (pss_cons (ps_set (i := 3) scScaled.nd rfl (Or.inl rfl) (pe_op op_add (pe_op op_mul (pv 3) (pv 1)) (pe_op op_mul (pv 5) (pv 4))))
      (pss_one (ps_aug (i := 4) scScaled.nd rfl (Or.inl rfl) (pv 2) ip_mul))))
    (pss_one (ps_ret (pv 3))))), ?_⟩
  walk_at "rd"
  obtain ⟨pu, rfl, eu⟩ := hu
  have pk : ∀ k, k ≤ 8 → m ^ k ≤ 7 ^ 8 := fun k hk => Int.le_trans (pow_le7 m0 m1 k) (pow_mono7 hk)
  refine ⟨.ref pu, rfl, pu, r.map V.int, rfl, .inr ⟨SqT.of eu, for_rev (xs := r.map V.int) (fun i σ H' => ∃ (x5 : Option V), σ = [some (.ref pu), some (.int n), some (.int m), some (.int (T n m (r.drop (r.length - i)))), some (.int (m ^ (r.drop (r.length - i)).length)), x5] ∧ H' = H) ?_ ?_ ?_ ?_⟩⟩
  · refine ⟨none, ?_, rfl⟩
    rw [Nat.sub_zero, List.drop_length, show (m ^ ([] : List Int).length : Int) = 1 from Int.pow_zero m]
    rfl
  · rintro i σ H1 hi ⟨x5, rfl, rfl⟩
    exact SqT.of eu
  · rintro i x σ H1 hi hx ⟨x5, rfl, rfl⟩
    rw [List.length_map] at hi hx
    have hix : r.length - 1 - i < r.length := by omega
    rw [List.getElem?_map, List.getElem?_eq_getElem hix] at hx
    cases hx
    have ls : (r.drop (r.length - i)).length = i := by rw [List.length_drop]; omega
    have dt := drop_top hi
    generalize r.drop (r.length - i) = sfx at ls dt ⊢
    rw [dt]
    have p0 := pow_pos' m0 sfx.length
    have p1 := pk sfx.length (by omega)
    refine ⟨.int (T n m sfx), rfl, .int n, rfl, _, _, rfl, rfl, .inr ⟨by omega, by omega⟩, .int _, rfl, .int _, rfl, _, _, rfl, rfl, .inr ⟨by omega, by omega⟩, _, _, rfl, rfl, .int _, rfl, .int m, rfl, _, _, rfl, rfl, .inr ⟨by omega, by omega⟩, some (.int r[r.length - 1 - i]), ?_, rfl⟩
    show [some (V.ref pu), some (V.int n), some (V.int m), some (V.int (T n m sfx * n + r[r.length - 1 - i] * m ^ sfx.length)), some (V.int (m ^ sfx.length * m)), some (V.int r[r.length - 1 - i])] = _
    rw [List.length_cons, Int.pow_succ, T]
  · rintro σ H1 ⟨x5, rfl, rfl⟩
    refine ⟨_, rfl, ?_⟩
    rw [List.length_map, Nat.sub_self, List.drop_zero]
    exact q _ (Same.refl _)
theorem scIsFr : FnScope ["value", "n", "m"] ["value"] (defScope sIsFr) := ⟨rfl, rfl, rfl, by decide +kernel, rfl, by decide +kernel, by decide +kernel⟩
theorem ok_isfr (D : Def K mg "is_fraction" sIsFr ["value"]) (nb : Nb mg) (c1 : Cal P w K mg base "is_whole" 1 ["value"] (spB wholeB)) : Cal P w K mg base "is_fraction" 2 ["value"] spFrac := by
  refine D.ok scIsFr (fun vs H Q E h => ?_) (fun f cdv A out s H vs Q E hr h => ?_)
  · obtain ⟨v, n, m, rfl, _⟩ := h; rfl
  obtain ⟨v, n, m, rfl, hv, m0, co, q⟩ := h
  refine ⟨_, pss_cons (ps_if (PW.pt (pw_or (pt_not (pt_val (pe_callB (id := "isinstance") (r := rIsi K) call_isi (by rfl) nb.isi (by decide +kernel) (pa_cons (pv 0) (pa_cons (pe_bltn (v := .ty "tuple") (by rfl) nb.tup (by decide +kernel) rfl) pa_nil)))))
      (pw_or1 (pt_cmpR op_ne (pe_callB (id := "len") (r := rLn K) call_len_seq (by rfl) nb.len PySem.boot_len (pa_cons (pv 0) pa_nil)) pe_int (nomark _))))) pss_dead pss_nil)
    (pss_cons (ps_asg (pv 0) (pg_tup rfl (pgs_cons (pg_name (i := 1) scIsFr.nd rfl (Or.inl rfl)) (pgs_cons (pg_name (i := 2) scIsFr.nd rfl (Or.inl rfl)) pgs_nil))))
    (pss_one (ps_ret (pe_and (pe_cal c1 hr (by decide) (by rfl) (pa_cons (pv 1) pa_nil)) (pe_and (pe_cal c1 hr (by decide) (by rfl) (pa_cons (pv 2) pa_nil)) (pe_and (pe_cmpR op_gt (pv 2) pe_int (nomark _))
      (pe_one (pe_cmpR op_eq (pe_callBfun cr_gcd (by rfl) nb.gc (pa_cons (pv 1) (pa_cons (pv 2) pa_nil))) pe_int (nomark _))))))))), ?_⟩
  walk_at "rd"
  obtain ⟨p, rfl, e⟩ := hv
  have dv : Da (p + 1) H (.ref p) (.tuple [.int n, .int m]) := .tup (Nat.ne_of_lt (Nat.lt_succ_self p)) e (.cons (.int n) (.cons (.int m) .nil))
  refine ⟨.ref p, rfl, isi dv (isi_tup _) ⟨true, rfl, iteF ⟨.ref p, rfl, p, _, rfl, .inr (SqT.of e), rfl, _, rfl, iteF ⟨_, rfl, p, _, rfl, SqT.of e, rfl, _, _, rfl, _, _, rfl, rfl, ?_⟩⟩⟩⟩
  refine ⟨.int n, rfl, 0, .int n, .int n, 0, rfl, .int n, sm_int _ _ _, fun H1 s1 => ⟨true, rfl, iteT ⟨.int m, rfl, 0, .int m, .int m, 0, rfl, .int m, sm_int _ _ _, fun H2 s2 => ⟨true, rfl, iteT ?_⟩⟩⟩⟩
  refine ⟨.int m, rfl, _, _, rfl, rfl, _, rfl, ite2 (fun c => ?_) (fun c => absurd (decide_eq_true m0) c)⟩
  refine ⟨.int n, rfl, .int m, rfl, n, m, rfl, rfl, ?_⟩
  rw [co]
  exact q H2 (s1.trans s2)
theorem scPower : FnScope ["base", "many", "found"] ["base", "many"] (defScope sPower) := ⟨rfl, rfl, rfl, by decide +kernel, rfl, by decide +kernel, by decide +kernel⟩
theorem ok_power (D : Def K mg "power" sPower ["base", "many"]) : Cal P w K mg base "power" 1 ["base", "many"] spPower := by
  refine D.ok scPower (fun vs H Q E h => ?_) (fun f cdv A out s H vs Q E hr h => ?_)
  · obtain ⟨m, k, rfl, _⟩ := h; rfl
  obtain ⟨m, k, rfl, m0, m1, k1, q⟩ := h
  refine ⟨_, pss_cons (ps_set (i := 2) scPower.nd rfl (Or.inl rfl) pe_int)
    (pss_cons (ps_while PassesOwn.never (pt_truth (pv 1) (fun _ => rfl))
      (Evl.pss_cut (ps_if (pt_truth (pe_op op_odd (pv 1) pe_int) (fun _ => rfl)) (pss_one (ps_aug (i := 2) scPower.nd rfl (Or.inl rfl) (pv 0) ip_mul)) pss_nil)
      (pss_cons (ps_aug (i := 1) scPower.nd rfl (Or.inl rfl) pe_int ip_half)
      (pss_one (ps_if (pt_truth (pv 1) (fun _ => rfl)) (pss_one (ps_aug (i := 0) scPower.nd rfl (Or.inl rfl) (pv 0) ip_mul)) pss_nil)))))
    (pss_one (ps_ret (pv 2)))), ?_⟩
  walk_at "rd"
  have mk : m ^ k ≤ 7 ^ 8 := Int.le_trans (pow_le7 m0 m1 k) (pow_mono7 k1)
  refine ⟨fun j σ H' => ∃ b f : Int, σ = [some (.int b), some (.int (j : Int)), some (.int f)] ∧ 0 < b ∧ 0 < f ∧ f * b ^ j = m ^ k ∧ H' = H, ⟨k, m, 1, rfl, m0, by decide, by rw [Int.one_mul], rfl⟩, ?_⟩
  rintro j σ H1 ⟨b, f, rfl, b0, f0, e, rfl⟩
  refine ⟨.int j, rfl, _, rfl, ?_⟩
  have fle : f ≤ m ^ k := by
    have := pow_pos' b0 j
    have := Int.mul_le_mul_of_nonneg_left (show (1 : Int) ≤ b ^ j by omega) (show 0 ≤ f by omega)
    rw [Int.mul_one] at this
    omega
  by_cases c : j = 0
  · subst c
    refine iteF ⟨_, rfl, ?_⟩
    have : f = m ^ k := by simpa using e
    rw [this]
    exact q _ (Same.refl _)
  rw [show ((j : Int) != 0) = true from bne_iff_ne.mpr (by omega)]
  have ble : b ≤ m ^ k := by
    obtain ⟨i, rfl⟩ : ∃ i, j = i + 1 := ⟨j - 1, by omega⟩
    have p0 := pow_pos' b0 i
    have h1 : b ^ (i + 1) = b ^ i * b := Int.pow_succ _ _
    have h2 := Int.mul_le_mul_of_nonneg_right (show (1 : Int) ≤ f * b ^ i by have := Int.mul_pos f0 p0; omega) (show 0 ≤ b by omega)
    rw [Int.one_mul] at h2
    have h3 : f * b ^ i * b = m ^ k := by rw [Int.mul_assoc, ← h1, e]
    omega
  refine iteT ⟨fun σ' H' => ∃ (j' : Nat) (b f : Int), j' < j ∧ σ' = [some (.int b), some (.int (j' : Int)), some (.int f)] ∧ 0 < b ∧ 0 < f ∧ f * b ^ j' = m ^ k ∧ H' = H1, fun σ' H' ⟨j', b', f', a1, a2, a3, a4, a5, a6⟩ => ⟨j', a1, b', f', a2, a3, a4, a5, a6⟩, ?_⟩
  refine ⟨fun σ' H' => σ' = [some (.int b), some (.int (j : Int)), some (.int (if j % 2 = 1 then f * b else f))] ∧ H' = H1, ?_, ?_⟩
  · refine ⟨.int j, rfl, j, rfl, rfl, _, rfl, ?_⟩
    rcases Nat.mod_two_eq_zero_or_one j with z | z
    · rw [z]
      refine iteF ⟨?_, rfl⟩
      rw [if_neg (by omega)]
    · rw [z]
      refine iteT ⟨.int f, rfl, .int b, rfl, f, b, rfl, rfl, .inr ⟨by omega, by omega⟩, ?_, rfl⟩
      rw [if_pos rfl]
      rfl
  · rintro σ2 H2 ⟨rfl, rfl⟩
    refine ⟨.int j, rfl, j, rfl, rfl, .int ((j / 2 : Nat) : Int), rfl, _, rfl, ?_⟩
    have tn := pow_turn (b := b) (f := f) (k := j)
    have f2 : 0 < (if j % 2 = 1 then f * b else f) := by
      split
      · exact Int.mul_pos f0 b0
      · exact f0
    generalize (if j % 2 = 1 then f * b else f) = f' at tn f2 ⊢
    have jl : j / 2 < j := Nat.div_lt_self (by omega) (by decide)
    by_cases z : j / 2 = 0
    · rw [z] at tn ⊢
      refine iteF ⟨0, b, f', by omega, rfl, b0, f2, ?_, rfl⟩
      rw [← e, ← tn]
      simp
    · rw [show (((j / 2 : Nat) : Int) != 0) = true from bne_iff_ne.mpr (by omega)]
      refine iteT ⟨.int b, rfl, .int b, rfl, b, b, rfl, rfl, .inr ⟨by omega, by omega⟩, ?_⟩
      exact ⟨j / 2, b * b, f', jl, rfl, Int.mul_pos b0 b0, f2, by rw [tn, e], rfl⟩
theorem scPRSum : FnScope ["row", "other", "found", "k", "number"] ["row", "other"] (defScope sPRSum) := ⟨rfl, rfl, rfl, by decide +kernel, rfl, by decide +kernel, by decide +kernel⟩
theorem ok_prsum (D : Def K mg "row_sum" sPRSum ["row", "other"]) (nb : Nb mg) (ne : mg "enumerate" = none) (c1 : Cal P w K mg base "trimmed" 1 ["numbers"] spTrimL) : Cal P w K mg base "row_sum" 2 ["row", "other"] spAddR := by
  refine D.ok scPRSum (fun vs H Q E h => ?_) (fun f cdv A out s H vs Q E hr h => ?_)
  · obtain ⟨u, v, r, s, rfl, _⟩ := h; rfl
  obtain ⟨u, v, r, t, rfl, hu, hv, lr, lt, q⟩ := h
  refine ⟨_, Evl.pss_cut (ps_if (pt_cmpR op_lt (pe_callB (id := "len") (r := rLn K) call_len_seq (by rfl) nb.len PySem.boot_len (pa_cons (pv 0) pa_nil)) (pe_callB (id := "len") (r := rLn K) call_len_seq (by rfl) nb.len PySem.boot_len (pa_cons (pv 1) pa_nil)) (nomark _))
        (pss_one (ps_par (i := 0) (j := 1) rfl scPRSum.nd rfl rfl (by decide) rfl rfl (pa_cons (pv 1) (pa_cons (pv 0) pa_nil)) rfl)) pss_nil)
    (pss_cons (ps_set (i := 2) scPRSum.nd rfl (Or.inl rfl) (pe_callTy (T := "list") call_list_of (by rfl) nb.lst (by decide +kernel) (pa_cons (pv 0) pa_nil)))
    (pss_cons (ps_for PassesOwn.never rfl (pi_enumT (by rfl) ne (pv 1)) (pg_tup rfl (pgs_cons (pg_name (i := 3) scPRSum.nd rfl (Or.inl rfl)) (pgs_cons (pg_name (i := 4) scPRSum.nd rfl (Or.inl rfl)) pgs_nil)))
        (pss_one (ps_augS (pv 2) (pv 3) get_l (pv 4) ip_add set_list)))
    (pss_one (ps_ret (pe_cal c1 hr (by decide) (by rfl) (pa_cons (pv 2) pa_nil)))))), ?_⟩
  walk_at "rd"
  obtain ⟨pu, rfl, eu⟩ := hu
  obtain ⟨pw, rfl, ev⟩ := hv
  refine ⟨fun σ H' => ∃ (pa pb : Addr) (a b : List Int), σ = [some (.ref pa), some (.ref pb), none, none, none] ∧ H' = H ∧ H pa = some (.tup (a.map V.int)) ∧ H pb = some (.tup (b.map V.int)) ∧ b.length ≤ a.length ∧ a.length ≤ 100 ∧ ∀ k, g a k + g b k = g r k + g t k, ?_, ?_⟩
  · refine ⟨.ref pu, rfl, pu, _, rfl, .inr (SqT.of eu), .ref pw, rfl, pw, _, rfl, .inr (SqT.of ev), _, _, rfl, rfl, _, rfl, ite2 (fun c => ?_) (fun c => ?_)⟩
    · have c := of_decide_eq_true c
      rw [List.length_map, List.length_map] at c
      exact ⟨.ref pw, rfl, .ref pu, rfl, _, _, rfl, pw, pu, t, r, rfl, rfl, ev, eu, by omega, lt, fun k => by omega⟩
    · have c : ¬ ((r.length : Int) < (t.length : Int)) := fun z => c (decide_eq_true (by rw [List.length_map, List.length_map]; exact z))
      exact ⟨pu, pw, r, t, rfl, rfl, eu, ev, by omega, lr, fun k => rfl⟩
  clear eu ev
  rintro σ H0 ⟨pa, pb, a, b, rfl, rfl, ea, eb, lb, la, cs⟩
  refine ⟨.ref pa, rfl, pa, _, rfl, .inr (SqT.of ea), fun L nL => ?_⟩
  have s1 := same_new (o := .lst (a.map V.int)) nL
  have eL : upd H0 L (.lst (a.map V.int)) L = some (.lst (a.map V.int)) := upd_same
  generalize upd H0 L (.lst (a.map V.int)) = H1 at s1 eL ⊢
  refine ⟨.ref pb, rfl, pb, b.map V.int, rfl, SqT.of (s1 _ _ eb), for_enumT (xs := b.map V.int) (fun i σ H' => ∃ (x3 x4 : Option V) (l : List Int), σ = [some (.ref pa), some (.ref pb), some (.ref L), x3, x4] ∧ Same H0 H' ∧ H' L = some (.lst (l.map V.int)) ∧ l.length = a.length ∧ ∀ k, g l k = g a k + (if k < i then g b k else 0)) ?_ ?_ ?_ ?_⟩
  · exact ⟨none, none, a, rfl, s1, eL, rfl, fun k => by rw [if_neg (by omega), Int.add_zero]⟩
  · rintro i σ H' hi ⟨x3, x4, l, rfl, s', _⟩
    exact SqT.of (s' _ _ eb)
  · rintro i x p σ H' hx ⟨x3, x4, l, rfl, s', el, ll, cl⟩ np
    rw [List.getElem?_map] at hx
    cases hb : b[i]? with
    | none => rw [hb] at hx; cases hx
    | some c =>
      rw [hb] at hx
      cases hx
      have ib := (List.getElem?_eq_some_iff.mp hb).1
      have gb : g b i = c := by
        rw [g_some ib]
        exact (List.getElem?_eq_some_iff.mp hb).2
      have il : i < l.length := by omega
      have s2 := s'.trans (same_new (o := .tup [.int (i : Nat), .int c]) np)
      have el2 : upd H' p (.tup [.int (i : Nat), .int c]) L = some (.lst (l.map V.int)) := by
        rw [upd_ne (ne_of_none el np)]; exact el
      refine ⟨p, _, rfl, SqT.of upd_same, rfl, _, _, rfl, _, _, rfl, rfl, ?_⟩
      generalize upd H' p (.tup [.int (i : Nat), .int c]) = H2 at s2 el2 ⊢
      refine ⟨.ref L, rfl, .int (i : Nat), rfl, L, _, i, .int l[i], rfl, rfl, SqL.of el2, by rw [List.getElem?_map, List.getElem?_eq_getElem il]; rfl, .int c, rfl, _, _, rfl, rfl, L, _, _, i, rfl, rfl, el2, Evl.ixN_nat (by rw [List.length_map]; exact il), ?_⟩
      refine ⟨some (.int (i : Nat)), some (.int c), l.set i (l[i] + c), rfl, same_upd s2 nL, by rw [upd_same, map_set'], by rw [List.length_set]; exact ll, fun k => ?_⟩
      rw [g_set il, cl k]
      by_cases e : k = i
      · subst e
        rw [if_pos rfl, if_pos (by omega), ← g_some il, cl k, if_neg (by omega), gb, Int.add_zero]
      · rw [if_neg e]
        congr 1
        by_cases e2 : k < i
        · rw [if_pos e2, if_pos (by omega)]
        · rw [if_neg e2, if_neg (by omega)]
  · rintro σ H' ⟨x3, x4, l, rfl, s', el, ll, cl⟩
    refine ⟨.ref L, rfl, L, l, rfl, el, fun z H2 s2 r2 => q z _ H2 (s'.trans s2) r2 (okR_trim _) fun k => ?_⟩
    rw [g_trim, cl k, List.length_map, ← cs k]
    congr 1
    by_cases e : k < b.length
    · rw [if_pos e]
    · rw [if_neg e, g_none (show b.length ≤ k by omega)]
theorem scPRScaled : FnScope ["row", "whole", "number"] ["row", "whole"] (defScope sPRScaled) := ⟨rfl, rfl, rfl, by decide +kernel, rfl, by decide +kernel, by decide +kernel⟩
theorem ok_prscaled (D : Def K mg "row_scaled" sPRScaled ["row", "whole"]) (nb : Nb mg) : Cal P w K mg base "row_scaled" 1 ["row", "whole"] spScR := by
  refine D.ok scPRScaled (fun vs H Q E h => ?_) (fun f cdv A out s H vs Q E hr h => ?_)
  · obtain ⟨u, r, c, rfl, _⟩ := h; rfl
  obtain ⟨u, r, c, rfl, hu, okr, lr, c64, q⟩ := h
  refine ⟨_, pss_cons (ps_if (pt_cmpR op_eq (pv 1) pe_int (nomark _)) (pss_one (ps_ret (pe_tup pa_nil))) pss_nil)
    (pss_one (ps_ret (pe_callTy (T := "tuple") call_tuple_of (by rfl) nb.tup (by decide +kernel) (pa_cons
      (pe_lc (own := [("number", 2)]) (g := gName 2) (tt := tYes) rfl scPRScaled.nd (pi_tup (pv 0)) (blkOk_by (N := ["row", "whole", "number"]) (sc := defScope sPRScaled) (by decide +kernel))
        (fun _ _ _ _ _ => pg_name (i := 2) scPRScaled.nd rfl (Or.inl rfl)) (fun _ _ _ _ _ => pts_nil) (fun _ _ _ _ _ => pe_op op_mul (pv 1) (pv 2))) pa_nil)))), ?_⟩
  walk_at "rd"
  obtain ⟨pu, rfl, eu⟩ := hu
  refine ⟨.int c, rfl, rfl, _, rfl, ?_⟩
  rw [dec_int]
  by_cases z : c = 0
  · subst z
    exact iteT ⟨sz (by simp), fun p np => q _ [] _ (same_new np) ⟨p, rfl, upd_same⟩ okR_nil fun k => by rw [g_none (Nat.zero_le _), Int.zero_mul]⟩
  rw [show (c == 0) = false from beq_eq_false_iff_ne.mpr z]
  refine iteF (lc_relT (S := fun _ v k => v = V.int k) (R := fun _ v k => v = V.int k) (g := fun x => c * x) (rs := r) (p := pu) (xs := r.map V.int) (stable_eq _) (stable_eq _) rfl eu (RelA.of_map _) (by omega) (fun x => wipeJ _ _ _) (fun x d H1 hd s1 rx Z hZ => ?_) fun L ys H1 s1 nL eL ry => ?_)
  · subst rx
    exact ⟨.int c, rfl, .int d, rfl, _, _, rfl, rfl, .inl ⟨by omega, by omega⟩, hZ _ _ (Same.refl _) rfl⟩
  · have ey := RelA.eq_map ry
    refine ⟨L, _, rfl, .inl ⟨SqL.of eL, fun p np => ?_⟩⟩
    exact q _ _ _ (s1.trans (same_new np)) ⟨p, rfl, by rw [upd_same, ey]⟩ (okR_scaled okr z) fun k => g_map c r k
theorem scShared : FnScope ["numbers", "found", "n"] ["numbers"] (defScope sShared) := ⟨rfl, rfl, rfl, by decide +kernel, rfl, by decide +kernel, by decide +kernel⟩
theorem ok_shared (D : Def K mg "shared_by" sShared ["numbers"]) (nb : Nb mg) : Cal P w K mg base "shared_by" 1 ["numbers"] spShared := by
  refine D.ok scShared (fun vs H Q E h => ?_) (fun f cdv A out s H vs Q E hr h => ?_)
  · obtain ⟨p, l, rfl, _⟩ := h; rfl
  obtain ⟨p, l, rfl, e, q⟩ := h
  refine ⟨_, pss_cons (ps_set (i := 1) scShared.nd rfl (Or.inl rfl) pe_int)
    (pss_cons (ps_for PassesOwn.never rfl (pi_tup (pv 0)) (pg_name (i := 2) scShared.nd rfl (Or.inl rfl))
      (pss_cons (ps_set (i := 1) scShared.nd rfl (Or.inl rfl) (pe_callBfun cr_gcd (by rfl) nb.gc (pa_cons (pv 1) (pa_cons (pv 2) pa_nil))))
      (pss_one (ps_if (pt_cmpR op_eq (pv 1) pe_int (nomark _)) (pss_one (ps_ret pe_int)) pss_nil))))
    (pss_one (ps_ret (pv 1)))), ?_⟩
  walk_at "rd"
  refine ⟨.ref p, rfl, p, rfl, ⟨_, SqT.of e⟩, for_tup (xs := l.map V.int) (fun i σ H' => ∃ (x2 : Option V), σ = [some (.ref p), some (.int (G 0 (l.take i) : Nat)), x2] ∧ H' = H) ?_ ?_ ?_ ?_⟩
  · exact ⟨none, rfl, rfl⟩
  · rintro i σ H1 hi ⟨x2, rfl, rfl⟩
    exact SqT.of e
  · rintro i x σ H1 hx ⟨x2, rfl, rfl⟩
    rw [List.getElem?_map] at hx
    cases hl : l[i]? with
    | none => rw [hl] at hx; cases hx
    | some c =>
      rw [hl] at hx
      cases hx
      have eg : Nat.gcd (G 0 (l.take i)) c.natAbs = G 0 (l.take (i + 1)) := by
        rw [List.take_add_one, hl]
        exact (G_append _ _ _).symm
      refine ⟨_, rfl, .int c, rfl, _, c, rfl, ?_⟩
      rw [Int.natAbs_natCast, eg]
      refine ⟨_, rfl, rfl, _, rfl, ?_⟩
      rw [dec_int]
      by_cases z : G 0 (l.take (i + 1)) = 1
      · rw [z]
        refine iteT ?_
        have := q H1 (Same.refl _)
        rw [G_early z] at this
        exact this
      · rw [show (((G 0 (l.take (i + 1)) : Nat) : Int) == 1) = false from beq_eq_false_iff_ne.mpr (by omega)]
        exact iteF ⟨some (.int c), rfl, rfl⟩
  · rintro σ H1 ⟨x2, rfl, rfl⟩
    refine ⟨_, rfl, ?_⟩
    rw [List.length_map, List.take_length]
    exact q _ (Same.refl _)
theorem scPRTimes : FnScope ["row", "other", "bits", "found", "k", "number", "at", "factor"] ["row", "other"] (defScope sPRTimes) := ⟨rfl, rfl, rfl, by decide +kernel, rfl, by decide +kernel, by decide +kernel⟩
theorem ok_prtimes (D : Def K mg "row_times" sPRTimes ["row", "other"]) (nb : Nb mg) (ne : mg "enumerate" = none) (ns : ∃ t, mg "SHORT" = some (.int 6 t)) : Cal P w K mg base "row_times" 1 ["row", "other"] spMulR := by
  refine D.ok scPRTimes (fun vs H Q E h => ?_) (fun f cdv A out s H vs Q E hr h => ?_)
  · obtain ⟨u, v, r, s, rfl, _⟩ := h; rfl
  obtain ⟨u, v, r, t, rfl, hu, hv, okr, okt, lr, lt, lmin, cm, q⟩ := h
  obtain ⟨tk, ns⟩ := ns
  refine ⟨_, pss_cons (ps_if (PW.pt (pw_or (pt_not (pt_truth (pv 0) (fun _ => rfl))) (pw_or1 (pt_not (pt_truth (pv 1) (fun _ => rfl)))))) (pss_one (ps_ret (pe_tup pa_nil))) pss_nil)
    (Evl.pss_cut (ps_if (pt_cmpR op_lt (pe_callB (id := "len") (r := rLn K) call_len_seq (by rfl) nb.len PySem.boot_len (pa_cons (pv 0) pa_nil)) (pe_callB (id := "len") (r := rLn K) call_len_seq (by rfl) nb.len PySem.boot_len (pa_cons (pv 1) pa_nil)) (nomark _))
        (pss_one (ps_par (i := 0) (j := 1) rfl scPRTimes.nd rfl rfl (by decide) rfl rfl (pa_cons (pv 1) (pa_cons (pv 0) pa_nil)) rfl)) pss_nil)
    (pss_cons (ps_if (pt_cmpR op_gt (pe_callB (id := "len") (r := rLn K) call_len_seq (by rfl) nb.len PySem.boot_len (pa_cons (pv 1) pa_nil)) (pe_glob (v := .int 6) (by rfl) ns ⟨tk, rfl⟩) (nomark _)) pss_dead pss_nil)
    (pss_cons (ps_set (i := 3) scPRTimes.nd rfl (Or.inl rfl) (pe_op op_rep (pe_lst (pa_cons pe_int pa_nil)) (pe_op op_sub (pe_op op_add (pe_callB (id := "len") (r := rLn K) call_len_seq (by rfl) nb.len PySem.boot_len (pa_cons (pv 0) pa_nil)) (pe_callB (id := "len") (r := rLn K) call_len_seq (by rfl) nb.len PySem.boot_len (pa_cons (pv 1) pa_nil))) pe_int)))
    (pss_cons (ps_for PassesOwn.never rfl (pi_enumT (by rfl) ne (pv 1)) (pg_tup rfl (pgs_cons (pg_name (i := 4) scPRTimes.nd rfl (Or.inl rfl)) (pgs_cons (pg_name (i := 5) scPRTimes.nd rfl (Or.inl rfl)) pgs_nil)))
        (pss_one (ps_if (pt_truth (pv 5) (fun _ => rfl))
          (pss_one (ps_for PassesOwn.never rfl (pi_enumT (by rfl) ne (pv 0)) (pg_tup rfl (pgs_cons (pg_name (i := 6) scPRTimes.nd rfl (Or.inl rfl)) (pgs_cons (pg_name (i := 7) scPRTimes.nd rfl (Or.inl rfl)) pgs_nil)))
            (pss_one (ps_augS (pv 3) (pe_op op_add (pv 6) (pv 4)) get_l (pe_op op_mul (pv 7) (pv 5)) ip_add set_list)))) pss_nil)))
    (pss_one (ps_ret (pe_callTy (T := "tuple") call_tuple_of (by rfl) nb.tup (by decide +kernel) (pa_cons (pv 3) pa_nil)))))))), ?_⟩
  walk_at "rd"
  obtain ⟨pu, rfl, eu⟩ := hu
  obtain ⟨pw, rfl, ev⟩ := hv
  have emp : ∀ l : List Int, (l.map V.int).isEmpty = l.isEmpty := fun l => by cases l <;> rfl
  have ret0 : (∀ k, cv (g r) (g t) k = 0) → ([] : List V).length ≤ sizeLine ∧ ∀ p, H p = none → Q (.ref p) (upd H p (.tup [])) := fun hz =>
    ⟨sz (by simp), fun p np => q _ [] _ (same_new np) ⟨p, rfl, upd_same⟩ okR_nil fun k => (hz k).symm⟩
  refine ⟨.ref pu, rfl, _, .inr (.inl ⟨_, SqT.of eu, rfl⟩), ?_⟩
  rw [emp]
  cases er : r.isEmpty with
  | true =>
    have : r = [] := by simpa using er
    exact iteT (iteT (ret0 fun k => cv_zero (fun i => by rw [this]; rfl) k))
  | false =>
  refine iteF ⟨.ref pw, rfl, _, .inr (.inl ⟨_, SqT.of ev, rfl⟩), ?_⟩
  rw [emp]
  cases et : t.isEmpty with
  | true =>
    have : t = [] := by simpa using et
    exact iteT (ret0 fun k => by rw [cv_comm]; exact cv_zero (fun i => by rw [this]; rfl) k)
  | false =>
  refine iteF ?_
  have nr : r ≠ [] := fun z => by rw [z] at er; cases er
  have nt : t ≠ [] := fun z => by rw [z] at et; cases et
  refine ⟨fun σ H' => ∃ (pa pb : Addr) (a b : List Int), σ = [some (.ref pa), some (.ref pb), none, none, none, none, none, none] ∧ H' = H ∧ H pa = some (.tup (a.map V.int)) ∧ H pb = some (.tup (b.map V.int)) ∧ b.length ≤ 6 ∧ a.length ≤ 100 ∧ okR a ∧ okR b ∧ a ≠ [] ∧ b ≠ [] ∧ CM a b ∧ a.length + b.length = r.length + t.length ∧ ∀ k, cv (g b) (g a) k = cv (g r) (g t) k, ?_, ?_⟩
  · refine ⟨.ref pu, rfl, pu, _, rfl, .inr (SqT.of eu), .ref pw, rfl, pw, _, rfl, .inr (SqT.of ev), _, _, rfl, rfl, _, rfl, ite2 (fun c => ?_) (fun c => ?_)⟩
    · have c := of_decide_eq_true c
      rw [List.length_map, List.length_map] at c
      exact ⟨.ref pw, rfl, .ref pu, rfl, _, _, rfl, pw, pu, t, r, rfl, rfl, ev, eu, by omega, lt, okt, okr, nt, nr, cm.symm, by omega, fun k => rfl⟩
    · have c : ¬ ((r.length : Int) < (t.length : Int)) := fun z => c (decide_eq_true (by rw [List.length_map, List.length_map]; exact z))
      exact ⟨pu, pw, r, t, rfl, rfl, eu, ev, by omega, lr, okr, okt, nr, nt, cm, rfl, fun k => cv_comm _ _ _⟩
  clear eu ev
  rintro σ H0 ⟨pa, pb, a, b, rfl, rfl, ea, eb, lb, la, oka, okb, na, nb', cm, lab, cs⟩
  have la0 : 0 < a.length := List.length_pos_iff.mpr na
  have lb0 : 0 < b.length := List.length_pos_iff.mpr nb'
  refine ⟨.ref pb, rfl, pb, _, rfl, .inr (SqT.of eb), _, _, rfl, rfl, _, rfl, ite2 (fun c => ?_) (fun _ => ?_)⟩
  · have c := of_decide_eq_true c
    rw [List.length_map] at c
    omega
  refine ⟨sz (by simp), fun L0 nL0 => ?_⟩
  have s0 := same_new (o := .lst [.int 0]) nL0
  refine ⟨.ref pa, rfl, pa, _, rfl, .inr (SqT.of (s0 _ _ ea)), .ref pb, rfl, pb, _, rfl, .inr (SqT.of (s0 _ _ eb)), _, _, rfl, rfl, _, _, rfl, rfl, L0, _, _, rfl, rfl, upd_same, by rw [List.length_map, List.length_map]; omega, by rw [List.length_map, List.length_map]; omega, ?_, fun L nL => ?_⟩
  · have := sz (n := ((a.map V.int).length + (b.map V.int).length)) (by rw [List.length_map, List.length_map]; omega)
    show 1 * _ ≤ _
    rw [Nat.one_mul]
    omega
  have el0 : ((((a.map V.int).length : Nat) : Int) + (((b.map V.int).length : Nat) : Int) - 1).toNat = a.length + b.length - 1 := by rw [List.length_map, List.length_map]; omega
  rw [el0, flat_one]
  have nL' : H0 L = none := s0.free nL
  have s1 := s0.trans (same_new (o := .lst (List.replicate (a.length + b.length - 1) (V.int 0))) nL)
  have eL : upd (upd H0 L0 (.lst [.int 0])) L (.lst (List.replicate (a.length + b.length - 1) (V.int 0))) L = some (.lst ((List.replicate (a.length + b.length - 1) (0 : Int)).map V.int)) := by
    rw [upd_same, List.map_replicate]
  generalize upd (upd H0 L0 (.lst [.int 0])) L _ = H1 at s1 eL ⊢
  refine ⟨.ref pb, rfl, pb, b.map V.int, rfl, SqT.of (s1 _ _ eb), for_enumT (xs := b.map V.int) (fun i σ H' => ∃ (x4 x5 x6 x7 : Option V) (l : List Int), σ = [some (.ref pa), some (.ref pb), none, some (.ref L), x4, x5, x6, x7] ∧ Same H0 H' ∧ H' L = some (.lst (l.map V.int)) ∧ l.length = a.length + b.length - 1 ∧ ∀ k, g l k = S i (fun j => if j ≤ k then g b j * g a (k - j) else 0)) ?_ ?_ ?_ ?_⟩
  · exact ⟨none, none, none, none, _, rfl, s1, eL, by simp, fun k => by
      unfold g
      rw [List.getD_eq_getElem?_getD, List.getElem?_replicate]
      split <;> rfl⟩
  · rintro i σ H' hi ⟨x4, x5, x6, x7, l, rfl, s', _⟩
    exact SqT.of (s' _ _ eb)
  · rintro i x p σ H' hx ⟨x4, x5, x6, x7, l, rfl, s', el, ll, cl⟩ np
    rw [List.getElem?_map] at hx
    cases hb : b[i]? with
    | none => rw [hb] at hx; cases hx
    | some c =>
    rw [hb] at hx
    cases hx
    have ib := (List.getElem?_eq_some_iff.mp hb).1
    have gb : g b i = c := by rw [g_some ib]; exact (List.getElem?_eq_some_iff.mp hb).2
    have s2 := s'.trans (same_new (o := .tup [.int (i : Nat), .int c]) np)
    have el2 : upd H' p (.tup [.int (i : Nat), .int c]) L = some (.lst (l.map V.int)) := by rw [upd_ne (ne_of_none el np)]; exact el
    refine ⟨p, _, rfl, SqT.of upd_same, rfl, _, _, rfl, _, _, rfl, rfl, ?_⟩
    generalize upd H' p (.tup [.int (i : Nat), .int c]) = H2 at s2 el2 ⊢
    refine ⟨.int c, rfl, _, rfl, ?_⟩
    by_cases c0 : c = 0
    · subst c0
      refine iteF ⟨some (.int (i : Nat)), some (.int 0), x6, x7, l, rfl, s2, el2, ll, fun k => ?_⟩
      rw [cl k, S, gb]
      split <;> omega
    rw [show (c != 0) = true from bne_iff_ne.mpr c0]
    refine iteT ⟨.ref pa, rfl, pa, a.map V.int, rfl, SqT.of (s2 _ _ ea), for_enumT (xs := a.map V.int) (fun m σ H' => ∃ (x6 x7 : Option V) (l : List Int), σ = [some (.ref pa), some (.ref pb), none, some (.ref L), some (.int (i : Nat)), some (.int c), x6, x7] ∧ Same H0 H' ∧ H' L = some (.lst (l.map V.int)) ∧ l.length = a.length + b.length - 1 ∧ ∀ k, g l k = S i (fun j => if j ≤ k then g b j * g a (k - j) else 0) + (if i ≤ k ∧ k - i < m then g b i * g a (k - i) else 0)) ?_ ?_ ?_ ?_⟩
    · exact ⟨x6, x7, l, rfl, s2, el2, ll, fun k => by rw [cl k, if_neg (by omega), Int.add_zero]⟩
    · rintro m σ H' hm ⟨x6, x7, l, rfl, s', _⟩
      exact SqT.of (s' _ _ ea)
    · rintro m x p σ H' hx ⟨x6, x7, l, rfl, s', el, ll, cl⟩ np
      rw [List.getElem?_map] at hx
      cases ha : a[m]? with
      | none => rw [ha] at hx; cases hx
      | some d =>
      rw [ha] at hx
      cases hx
      have im := (List.getElem?_eq_some_iff.mp ha).1
      have ga : g a m = d := by rw [g_some im]; exact (List.getElem?_eq_some_iff.mp ha).2
      have il : m + i < l.length := by omega
      have cmm := cm.get im ib
      rw [(List.getElem?_eq_some_iff.mp ha).2, (List.getElem?_eq_some_iff.mp hb).2] at cmm
      have s2 := s'.trans (same_new (o := .tup [.int (m : Nat), .int d]) np)
      have el2 : upd H' p (.tup [.int (m : Nat), .int d]) L = some (.lst (l.map V.int)) := by rw [upd_ne (ne_of_none el np)]; exact el
      refine ⟨p, _, rfl, SqT.of upd_same, rfl, _, _, rfl, _, _, rfl, rfl, ?_⟩
      generalize upd H' p (.tup [.int (m : Nat), .int d]) = H2 at s2 el2 ⊢
      have im2 : (m : Int) + (i : Int) = ((m + i : Nat) : Int) := by omega
      refine ⟨.ref L, rfl, .int (m : Nat), rfl, .int (i : Nat), rfl, _, _, rfl, rfl, ?_⟩
      walk_at "rd"
      rw [im2]
      refine ⟨L, _, m + i, .int l[m + i], rfl, rfl, SqL.of el2, by rw [List.getElem?_map, List.getElem?_eq_getElem il]; rfl, .int d, rfl, .int c, rfl, _, _, rfl, rfl, cmm, _, _, rfl, rfl, L, _, _, m + i, rfl, rfl, el2, Evl.ixN_nat (by rw [List.length_map]; exact il), ?_⟩
      refine ⟨some (.int (m : Nat)), some (.int d), l.set (m + i) (l[m + i] + d * c), rfl, same_upd s2 nL', by rw [upd_same, map_set'], by rw [List.length_set]; exact ll, fun k => ?_⟩
      rw [g_set il, cl k]
      by_cases e : k = m + i
      · subst e
        rw [if_pos rfl, if_pos (by omega), ← g_some il, cl (m + i), if_neg (by omega), show m + i - i = m from by omega, gb, ga, Int.add_zero, Int.mul_comm d c]
      · rw [if_neg e]
        congr 1
        by_cases e2 : i ≤ k ∧ k - i < m
        · rw [if_pos e2, if_pos (by omega)]
        · rw [if_neg e2, if_neg (by omega)]
    · rintro σ H' ⟨x6, x7, l, rfl, s', el, ll, cl⟩
      refine ⟨_, _, x6, x7, l, rfl, s', el, ll, fun k => ?_⟩
      rw [cl k, S, List.length_map]
      congr 1
      by_cases e : i ≤ k
      · rw [if_pos e]
        by_cases e2 : k - i < a.length
        · rw [if_pos ⟨e, e2⟩]
        · rw [if_neg (by omega), g_none (show a.length ≤ k - i by omega), Int.mul_zero]
      · rw [if_neg e, if_neg (by omega)]
  · rintro σ H' ⟨x4, x5, x6, x7, l, rfl, s', el, ll, cl⟩
    have cl' : ∀ k, g l k = cv (g b) (g a) k := fun k => by
      rw [cl k, List.length_map]
      exact cv_loop (fun i hi => g_none hi) k
    refine ⟨.ref L, rfl, L, _, rfl, .inl ⟨SqL.of el, fun p np => ?_⟩⟩
    exact q _ l _ (s'.trans (same_new np)) ⟨p, rfl, upd_same⟩ (okR_prod oka okb na nb' ll cl') fun k => (cl' k).trans (cs k)
theorem scFracOf : FnScope ["n", "m", "shared"] ["n", "m"] (defScope sFracOf) := ⟨rfl, rfl, rfl, by decide +kernel, rfl, by decide +kernel, by decide +kernel⟩
theorem ok_fracof (D : Def K mg "fraction_of" sFracOf ["n", "m"]) (nb : Nb mg) : Cal P w K mg base "fraction_of" 1 ["n", "m"] spLean := by
  refine D.ok scFracOf (fun vs H Q E h => ?_) (fun f cdv A out s H vs Q E hr h => ?_)
  · obtain ⟨i, j, rfl, _⟩ := h; rfl
  obtain ⟨i, j, rfl, j0, j1, q⟩ := h
  refine ⟨_, pss_cons (ps_set (i := 2) scFracOf.nd rfl (Or.inl rfl) (pe_callBfun cr_gcd (by rfl) nb.gc (pa_cons (pv 0) (pa_cons (pv 1) pa_nil))))
    (pss_one (ps_ret (pe_tup (pa_cons (pe_op op_fdiv (pv 0) (pv 2)) (pa_cons (pe_op op_fdiv (pv 1) (pv 2)) pa_nil))))), ?_⟩
  walk_at "rd"
  have g0 : 0 < Nat.gcd i.natAbs j.natAbs := Nat.gcd_pos_of_pos_right _ (by omega)
  have g1 : Nat.gcd i.natAbs j.natAbs ≤ j.natAbs := Nat.gcd_le_right _ (by omega)
  refine ⟨.int i, rfl, .int j, rfl, i, j, rfl, .int i, rfl, _, rfl, i, _, rfl, rfl, ⟨by omega, by omega⟩, .int j, rfl, _, rfl, j, _, rfl, rfl, ⟨by omega, by omega⟩, sz (by simp), fun t nt => ?_⟩
  exact q _ _ _ _ (same_new nt) ⟨t, rfl, upd_same⟩ (lo_lean j0)
theorem scDivided : FnScope ["row", "whole", "number"] ["row", "whole"] (defScope sDivided) := ⟨rfl, rfl, rfl, by decide +kernel, rfl, by decide +kernel, by decide +kernel⟩
theorem ok_divided (D : Def K mg "row_divided" sDivided ["row", "whole"]) (nb : Nb mg) : Cal P w K mg base "row_divided" 1 ["row", "whole"] spDivided := by
  refine D.ok scDivided (fun vs H Q E h => ?_) (fun f cdv A out s H vs Q E hr h => ?_)
  · obtain ⟨u, r, c, rfl, _⟩ := h; rfl
  obtain ⟨u, r, c, rfl, hu, lr, hc, q⟩ := h
  refine ⟨_, pss_one (ps_ret (pe_callTy (T := "tuple") call_tuple_of (by rfl) nb.tup (by decide +kernel) (pa_cons (pe_lc (own := [("number", 2)]) (g := gName 2) (tt := tYes) rfl scDivided.nd (pi_tup (pv 0)) (blkOk_by (N := ["row", "whole", "number"]) (sc := defScope sDivided) (by decide +kernel))
        (fun _ _ _ _ _ => pg_name (i := 2) scDivided.nd rfl (Or.inl rfl)) (fun _ _ _ _ _ => pts_nil) (fun _ _ _ _ _ => pe_op op_fdivN (pv 2) (pv 1))) pa_nil))), ?_⟩
  walk_at "rd"
  obtain ⟨pu, rfl, eu⟩ := hu
  refine lc_relT (S := fun _ v k => v = V.int k) (R := fun _ v k => v = V.int k) (g := fun x => x.fdiv c) (rs := r) (p := pu) (xs := r.map V.int) (stable_eq _) (stable_eq _) rfl eu (RelA.of_map _) (by omega) (fun x => wipeJ _ _ _) (fun x d H2 hd s2 rx Z hZ => ?_) fun L ys H2 s2 nL eL ry => ?_
  · subst rx
    have ne : r ≠ [] := fun z => by rw [z] at hd; cases hd
    exact ⟨.int d, rfl, .int _, rfl, _, _, rfl, rfl, hc ne, hZ _ _ (Same.refl _) rfl⟩
  · have ey := RelA.eq_map ry
    refine ⟨L, _, rfl, .inl ⟨SqL.of eL, fun t nt => ?_⟩⟩
    exact q _ _ (s2.trans (same_new nt)) ⟨t, rfl, by rw [upd_same, ey]⟩
theorem scPLess : FnScope ["row", "other"] ["row", "other"] (defScope sPLess) := ⟨rfl, rfl, rfl, by decide +kernel, rfl, by decide +kernel, by decide +kernel⟩
theorem ok_pless (D : Def K mg "row_less" sPLess ["row", "other"]) (c1 : Cal P w K mg base "row_sum" 2 ["row", "other"] spAddR) (c2 : Cal P w K mg base "row_scaled" 1 ["row", "whole"] spScR) : Cal P w K mg base "row_less" 3 ["row", "other"] spLess := by
  refine D.ok scPLess (fun vs H Q E h => ?_) (fun f cdv A out s H vs Q E hr h => ?_)
  · obtain ⟨u, v, r, s, rfl, _⟩ := h; rfl
  obtain ⟨u, v, r, t, rfl, hu, hv, okt, lr, lt, q⟩ := h
  refine ⟨_, pss_one (ps_ret (pe_cal c1 hr (by decide) (by rfl) (pa_cons (pv 0) (pa_cons (pe_cal c2 hr (by decide) (by rfl) (pa_cons (pv 1) (pa_cons (pe_un un_neg pe_int) pa_nil))) pa_nil)))), ?_⟩
  walk_at "rd"
  refine ⟨u, rfl, v, rfl, 1, rfl, v, t, -1, rfl, hv, okt, lt, by decide, fun z l H1 s1 rz okl gl => ?_⟩
  refine ⟨u, z, r, l, rfl, hu.kt (Kt.of s1), rz, lr, len_of okl fun k hk => by rw [gl, g_none (by omega)]; rfl, fun z2 l2 H2 s2 r2 ok2 g2 => q z2 l2 H2 (s1.trans s2) r2 ok2 fun k => by rw [g2, gl]⟩
theorem scPDeriv : FnScope ["row", "k", "number"] ["row"] (defScope sPDeriv) := ⟨rfl, rfl, rfl, by decide +kernel, rfl, by decide +kernel, by decide +kernel⟩
theorem ok_pderiv (D : Def K mg "row_derivative" sPDeriv ["row"]) (nb : Nb mg) (ne : mg "enumerate" = none) : Cal P w K mg base "row_derivative" 1 ["row"] spDeriv := by
  refine D.ok scPDeriv (fun vs H Q E h => ?_) (fun f cdv A out s H vs Q E hr h => ?_)
  · obtain ⟨u, r, rfl, _⟩ := h; rfl
  obtain ⟨u, r, rfl, hu, okr, lr, q⟩ := h
  refine ⟨_, pss_one (ps_ret (pe_callTy (T := "tuple") call_tuple_of (by rfl) nb.tup (by decide +kernel) (pa_cons (pe_slice sl_list
      (pe_lc (own := [("k", 1), ("number", 2)]) (g := gTup K 2 (gCons (gName 1) (gCons (gName 2) gNil))) (tt := tYes) rfl scPDeriv.nd (pi_enumT (by rfl) ne (pv 0)) (blkOk_by (N := ["row", "k", "number"]) (sc := defScope sPDeriv) (by decide +kernel))
        (fun _ _ _ _ _ => pg_tup rfl (pgs_cons (pg_name (i := 1) scPDeriv.nd rfl (Or.inl rfl)) (pgs_cons (pg_name (i := 2) scPDeriv.nd rfl (Or.inl rfl)) pgs_nil))) (fun _ _ _ _ _ => pts_nil) (fun _ _ _ _ _ => pe_op op_mul (pv 1) (pv 2)))
      (po_some pe_int) po_none) pa_nil))), ?_⟩
  walk_at "rd"
  obtain ⟨pu, rfl, eu⟩ := hu
  refine ⟨.ref pu, rfl, pu, r.map V.int, rfl, SqT.of eu, fun L nL => lc_enumT (xs := r.map V.int) (fun m H' => Same H H' ∧ ∃ l : List Int, H' L = some (.lst (l.map V.int)) ∧ l.length = m ∧ ∀ i, i < m → g l i = (i : Int) * g r i) ?_ ?_ ?_ ?_⟩
  · exact ⟨same_new nL, [], upd_same, rfl, fun i hi => (by omega)⟩
  · rintro i H' hi ⟨s', _⟩
    exact SqT.of (s' _ _ eu)
  · rintro i x t H' hx ⟨s', l, el, ll, cl⟩ nt
    rw [List.getElem?_map] at hx
    cases hb : r[i]? with
    | none => rw [hb] at hx; cases hx
    | some c =>
    rw [hb] at hx
    cases hx
    obtain ⟨ir, gr⟩ := List.getElem?_eq_some_iff.mp hb
    have grc : g r i = c := by rw [g_some ir]; exact gr
    have sp := same_new (o := .tup [.int (i : Nat), .int c]) nt
    have s2 := s'.trans sp
    have el2 := sp _ _ el
    refine ⟨t, _, rfl, SqT.of upd_same, rfl, _, _, rfl, _, _, rfl, rfl, ?_⟩
    generalize upd H' t (.tup [.int (i : Nat), .int c]) = H2 at s2 el2 ⊢
    refine ⟨rfl, .int (i : Nat), rfl, .int c, rfl, _, _, rfl, rfl, .inl ⟨by omega, by omega⟩, l.map V.int, el2, lt_line (by rw [List.length_map]; omega), same_upd s2 nL, l ++ [(i : Int) * c], by rw [upd_same, List.map_append]; rfl, by simp [ll], fun k hk => ?_⟩
    rcases Nat.lt_or_eq_of_le (Nat.le_of_lt_succ hk) with y | y
    · rw [← cl k y]
      unfold g
      rw [List.getD_eq_getElem?_getD, List.getD_eq_getElem?_getD, List.getElem?_append_left (by omega)]
    · have e : g (l ++ [(i : Int) * c]) k = (i : Int) * c := by
        unfold g
        rw [List.getD_eq_getElem?_getD, List.getElem?_append_right (by omega), show k - l.length = 0 from by omega]
        rfl
      rw [e, y, grc]
  · rintro H' ⟨s', l, el, ll, cl⟩
    rw [List.length_map] at ll cl
    have cut : L2.cutV (l.map V.int) (some (1 : Int)) none = (l.drop 1).map V.int := by
      unfold L2.cutV
      rw [show (some (1 : Int)) = some ((1 : Nat) : Int) from rfl, HT.sIx_nat, HT.sIx_none, List.length_map, List.map_drop]
      rcases Nat.eq_zero_or_pos l.length with c | c
      · have : l = [] := List.eq_nil_of_length_eq_zero c
        subst this
        rfl
      · rw [Nat.min_eq_left (by omega), List.take_of_length_le (by rw [List.length_drop, List.length_map]; omega)]
    have dg : ∀ k, g (l.drop 1) k = g l (k + 1) := fun k => by
      unfold g
      rw [List.getD_eq_getElem?_getD, List.getD_eq_getElem?_getD, List.getElem?_drop, Nat.add_comm]
    have all : ∀ k, g (l.drop 1) k = ((k + 1 : Nat) : Int) * g r (k + 1) := fun k => by
      rw [dg]
      rcases Nat.lt_or_ge (k + 1) r.length with c | c
      · exact cl _ c
      · rw [g_none (show l.length ≤ k + 1 by omega), g_none c, Int.mul_zero]
    have okl : okR (l.drop 1) := fun c hc => by
      rw [List.getLast?_eq_getElem?] at hc
      have hl := (List.getElem?_eq_some_iff.mp hc).1
      have e : g (l.drop 1) ((l.drop 1).length - 1) = c := by
        unfold g
        rw [List.getD_eq_getElem?_getD, hc]
        rfl
      rw [all] at e
      have l1 := List.length_drop (i := 1) (l := l)
      have ner : r ≠ [] := fun z => by rw [z] at ll; have ll2 : l.length = 0 := ll; omega
      have := okR_last okr ner
      rw [show (l.drop 1).length - 1 + 1 = r.length - 1 from by omega] at e
      rw [← e]
      have h1 : ((r.length - 1 : Nat) : Int) ≠ 0 := by omega
      exact Int.mul_ne_zero h1 this
    refine ⟨1, rfl, L, _, rfl, SqL.of el, fun c1' nc => ⟨c1', _, rfl, .inl ⟨SqL.of upd_same, fun t nt => ?_⟩⟩⟩
    rw [cut] at nt ⊢
    exact q _ (l.drop 1) _ (s'.trans ((same_new nc).trans (same_new nt))) ⟨t, rfl, upd_same⟩ okl all
theorem scPPrime : FnScope ["row", "shared"] ["row"] (defScope sPPrime) := ⟨rfl, rfl, rfl, by decide +kernel, rfl, by decide +kernel, by decide +kernel⟩
theorem ok_pprime (D : Def K mg "row_prime" sPPrime ["row"]) (c1 : Cal P w K mg base "shared_by" 1 ["numbers"] spShared) (c2 : Cal P w K mg base "row_divided" 1 ["row", "whole"] spDivided) : Cal P w K mg base "row_prime" 2 ["row"] spPrime := by
  refine D.ok scPPrime (fun vs H Q E h => ?_) (fun f cdv A out s H vs Q E hr h => ?_)
  · obtain ⟨u, r, rfl, _⟩ := h; rfl
  obtain ⟨u, r, rfl, hu, okr, lr, b6, q⟩ := h
  refine ⟨_, pss_cons (ps_if (pt_not (pt_truth (pv 0) (fun _ => rfl))) (pss_one (ps_ret (pe_tup pa_nil))) pss_nil)
    (pss_cons (ps_set (i := 1) scPPrime.nd rfl (Or.inl rfl) (pe_cal c1 hr (by decide) (by rfl) (pa_cons (pv 0) pa_nil)))
    (Evl.pss_cut (ps_if (pt_cmpR op_lt (pe_ix ix_tup (pv 0) (pe_un un_neg pe_int) (fun _ _ => rfl)) pe_int (nomark _)) (pss_one (ps_set (i := 1) scPPrime.nd rfl (Or.inl rfl) (pe_un un_neg (pv 1)))) pss_nil)
    (pss_one (ps_ret (pe_ifExp (pt_cmpR op_eq (pv 1) pe_int (nomark _)) (pv 0) (pe_cal c2 hr (by decide) (by rfl) (pa_cons (pv 0) (pa_cons (pv 1) pa_nil)))))))), ?_⟩
  walk_at "rd"
  obtain ⟨pu, rfl, eu⟩ := hu
  have emp : (r.map V.int).isEmpty = r.isEmpty := by cases r <;> rfl
  refine ⟨.ref pu, rfl, _, .inr (.inl ⟨_, SqT.of eu, rfl⟩), ?_⟩
  rw [emp]
  cases er : r.isEmpty with
  | true =>
    have e0 : r = [] := by simpa using er
    subst e0
    exact iteT ⟨sz (by simp), fun t nt => q _ _ (same_new nt) ⟨t, rfl, by rw [upd_same]; rfl⟩⟩
  | false =>
    have ne : r ≠ [] := fun z => by rw [z] at er; cases er
    have l0 : 0 < r.length := List.length_pos_iff.mpr ne
    have hl : r.length - 1 < r.length := by omega
    have g0 := G_pos okr ne
    have g1 := G_le okr ne b6
    have h0 := okR_last okr ne
    rw [g_some hl] at h0
    have at1 : atI (r.map V.int) (-1) = some (.int r[r.length - 1]) := atI_end (by rw [List.getLast?_eq_getElem?, List.length_map, List.getElem?_map, List.getElem?_eq_getElem hl]; rfl)
    refine iteF ⟨.ref pu, rfl, pu, r, rfl, eu, fun H1 s1 => ?_⟩
    have e1 := s1 _ _ eu
    refine ⟨fun σ H' => ∃ s : Int, σ = [some (.ref pu), some (.int s)] ∧ H' = H1 ∧ (s = (G 0 r : Int) ∧ 0 < r[r.length - 1] ∨ s = -(G 0 r : Int) ∧ ¬ (0 < r[r.length - 1])), ?_, ?_⟩
    · refine ⟨.ref pu, rfl, 1, rfl, pu, _, -1, _, rfl, rfl, SqT.of e1, at1, _, _, rfl, rfl, _, rfl, ite2 (fun c => ?_) (fun c => ?_)⟩
      · have c := of_decide_eq_true c
        exact ⟨_, rfl, _, rfl, -(G 0 r : Int), rfl, rfl, .inr ⟨rfl, by omega⟩⟩
      · have c' : ¬ (r[r.length - 1] < 0) := fun z => c (decide_eq_true z)
        exact ⟨_, rfl, rfl, .inl ⟨rfl, by omega⟩⟩
    · rintro σ H2 ⟨s, rfl, rfl, hs⟩
      refine ⟨.int s, rfl, rfl, _, rfl, ?_⟩
      rw [dec_int]
      by_cases c : s = 1
      · subst c
        have : G 0 r = 1 ∧ 0 < r[r.length - 1] := by
          rcases hs with ⟨a, b⟩ | ⟨a, b⟩
          · exact ⟨by omega, b⟩
          · omega
        refine iteT ⟨.ref pu, rfl, q _ H2 s1 ⟨pu, rfl, ?_⟩⟩
        rw [e1]
        unfold primeI
        rw [if_pos (.inl (by rw [g_some hl]; exact this.2)), this.1]
        have id : r.map (fun c => c / ((1 : Nat) : Int)) = r := by
          refine (List.map_congr_left fun x _ => ?_).trans (List.map_id r)
          show x / ((1 : Nat) : Int) = x
          omega
        rw [id]
      · rw [show (s == 1) = false from beq_eq_false_iff_ne.mpr c]
        refine iteF ⟨.ref pu, rfl, .int s, rfl, .ref pu, r, s, rfl, ⟨pu, rfl, e1⟩, lr, fun _ => ⟨by rcases hs with ⟨a, _⟩ | ⟨a, _⟩ <;> omega, by rcases hs with ⟨a, _⟩ | ⟨a, _⟩ <;> omega⟩, fun z H3 s3 rz => ?_⟩
        have : primeI r = r.map fun x => x.fdiv s := by
          unfold primeI
          rcases hs with ⟨a, b⟩ | ⟨a, b⟩
          · rw [if_pos (.inl (by rw [g_some hl]; exact b))]
            exact List.map_congr_left fun x _ => by rw [a, fdiv_pos (by omega)]
          · rw [if_neg (fun z => z.elim (fun z => b (by rw [g_some hl] at z; exact z)) ne)]
            exact List.map_congr_left fun x hx => by rw [a, fdiv_neg (by omega) (G_int hx)]
        exact q z H3 (s1.trans s3) (by rw [this]; exact rz)
theorem scRVal : FnScope ["row", "fraction"] ["row", "fraction"] (defScope sRValue) := ⟨rfl, rfl, rfl, by decide +kernel, rfl, by decide +kernel, by decide +kernel⟩
theorem ok_rval (D : Def K mg "row_value" sRValue ["row", "fraction"]) (nb : Nb mg) (c1 : Cal P w K mg base "fraction_of" 1 ["n", "m"] spLean) (c2 : Cal P w K mg base "scaled_value" 1 ["row", "n", "m"] spScaled) (c3 : Cal P w K mg base "power" 1 ["base", "many"] spPower) : Cal P w K mg base "row_value" 2 ["row", "fraction"] spRVal := by
  refine D.ok scRVal (fun vs H Q E h => ?_) (fun f cdv A out s H vs Q E hr h => ?_)
  · obtain ⟨u, v, r, n, m, rfl, _⟩ := h; rfl
  obtain ⟨u, v, r, n, m, rfl, hu, hv, sp, hl, q⟩ := h
  refine ⟨_, pss_cons (ps_if (pt_not (pt_truth (pv 0) (fun _ => rfl))) (pss_one (ps_ret (pe_tup (pa_cons pe_int (pa_cons pe_int pa_nil))))) pss_nil)
    (pss_one (ps_ret (pe_cal c1 hr (by decide) (by rfl) (pa_cons (pe_cal c2 hr (by decide) (by rfl) (pa_cons (pv 0) (pa_cons (pe_ix ix_tup (pv 1) pe_int (fun _ _ => rfl)) (pa_cons (pe_ix ix_tup (pv 1) pe_int (fun _ _ => rfl)) pa_nil))))
       (pa_cons (pe_cal c3 hr (by decide) (by rfl) (pa_cons (pe_ix ix_tup (pv 1) pe_int (fun _ _ => rfl)) (pa_cons (pe_op op_sub (pe_callB (id := "len") (r := rLn K) call_len_seq (by rfl) nb.len PySem.boot_len (pa_cons (pv 0) pa_nil)) pe_int) pa_nil))) pa_nil))))), ?_⟩
  walk_at "rd"
  obtain ⟨pu, rfl, eu⟩ := hu
  have m0 := sp.2.1
  have emp : (r.map V.int).isEmpty = r.isEmpty := by cases r <;> rfl
  refine ⟨.ref pu, rfl, _, .inr (.inl ⟨_, SqT.of eu, rfl⟩), ?_⟩
  rw [emp]
  cases er : r.isEmpty with
  | true =>
    have e0 : r = [] := by simpa using er
    refine iteT ⟨sz (by simp), fun t nt => q _ _ _ _ (same_new nt) ⟨t, rfl, upd_same⟩ ?_⟩
    rw [e0]
    exact ⟨by decide, by decide, by simp [T]⟩
  | false =>
    have nr : r ≠ [] := fun z => by rw [z] at er; cases er
    have l0 : 0 < r.length := List.length_pos_iff.mpr nr
    refine iteF ⟨.ref pu, rfl, v, rfl, hv.ix0 ⟨v, rfl, hv.ix1 ⟨.ref pu, r, n, m, rfl, ⟨pu, rfl, eu⟩, sp.1, m0, sp.2.2.1, hl, fun H1 s1 => ?_⟩⟩⟩
    have hv1 := hv.kt (Kt.of s1)
    refine ⟨v, rfl, hv1.ix1 ⟨.ref pu, rfl, pu, _, rfl, .inr (SqT.of (s1 _ _ eu)), _, _, rfl, rfl, m, r.length - 1, ?_, m0, sp.2.2.1, by omega, fun H2 s2 => ?_⟩⟩
    · rw [List.length_map]
      show [V.int m, V.int ((r.length : Int) - 1)] = [V.int m, V.int ((r.length - 1 : Nat) : Int)]
      rw [show (r.length : Int) - 1 = ((r.length - 1 : Nat) : Int) from by omega]
    have p1 := pow_pos' m0 (r.length - 1)
    have p2 : m ^ (r.length - 1) ≤ 7 ^ 8 := Int.le_trans (pow_le7 m0 sp.2.2.1 _) (pow_mono7 (by omega))
    exact ⟨_, _, rfl, p1, by omega, fun z a b H3 s3 h3 l3 => q z a b H3 (s1.trans (s2.trans s3)) h3 l3⟩
theorem scPPut : FnScope ["row", "other", "found", "number"] ["row", "other"] (defScope sPPut) := ⟨rfl, rfl, rfl, by decide +kernel, rfl, by decide +kernel, by decide +kernel⟩
theorem ok_pput (D : Def K mg "row_put_in" sPPut ["row", "other"]) (nb : Nb mg) (c1 : Cal P w K mg base "row_sum" 2 ["row", "other"] spAddR) (c2 : Cal P w K mg base "row_times" 1 ["row", "other"] spMulR) : Cal P w K mg base "row_put_in" 3 ["row", "other"] spPutIn := by
  refine D.ok scPPut (fun vs H Q E h => ?_) (fun f cdv A out s H vs Q E hr h => ?_)
  · obtain ⟨u, v, r, s, rfl, _⟩ := h; rfl
  obtain ⟨u, v, r, t, rfl, hu, hv, okr, okt, lr, lt, b6, q⟩ := h
  refine ⟨_, pss_cons (ps_set (i := 2) scPPut.nd rfl (Or.inl rfl) (pe_tup pa_nil))
    (pss_cons (ps_for PassesOwn.never rfl (RT.pi_revA (by rfl) nb.rev (pv 0)) (pg_name (i := 3) scPPut.nd rfl (Or.inl rfl))
      (pss_one (ps_set (i := 2) scPPut.nd rfl (Or.inl rfl) (pe_cal c1 hr (by decide) (by rfl) (pa_cons (pe_cal c2 hr (by decide) (by rfl) (pa_cons (pv 2) (pa_cons (pv 1) pa_nil))) (pa_cons (pe_ifExp (pt_truth (pv 3) (fun _ => rfl)) (pe_tup (pa_cons (pv 3) pa_nil)) (pe_tup pa_nil)) pa_nil))))))
    (pss_one (ps_ret (pv 2)))), ?_⟩
  walk_at "rd"
  obtain ⟨pu, rfl, eu⟩ := hu
  refine ⟨sz (by simp), fun e0 ne0 => ?_⟩
  have s0 := same_new (o := .tup []) ne0
  have r0 : Ro (upd H e0 (.tup [])) (.ref e0) [] := ⟨e0, rfl, upd_same⟩
  have hv1 := hv.kt (Kt.of s0)
  have eu1 := s0 _ _ eu
  generalize upd H e0 (.tup []) = H1 at s0 r0 hv1 eu1 ⊢
  refine ⟨.ref pu, rfl, pu, r.map V.int, rfl, .inr ⟨SqT.of eu1, for_rev (xs := r.map V.int) (fun i σ H' => ∃ z x3 l, σ = [some (.ref pu), some v, some z, x3] ∧ Same H1 H' ∧ Ro H' z l ∧ okR l ∧ ∀ k, g l k = putI t (r.drop (r.length - i)) k) ?_ ?_ ?_ ?_⟩⟩
  · refine ⟨_, none, [], rfl, Same.refl _, r0, okR_nil, fun k => ?_⟩
    rw [Nat.sub_zero, List.drop_length, g_none (Nat.zero_le _)]
    rfl
  · rintro i σ H' hi ⟨z, x3, l, rfl, s', _⟩
    exact SqT.of (s' _ _ eu1)
  · rintro i x σ H' hi hx ⟨z, x3, l, rfl, s', rl, okl, gl⟩
    rw [List.length_map] at hi hx
    have hix : r.length - 1 - i < r.length := by omega
    rw [List.getElem?_map, List.getElem?_eq_getElem hix] at hx
    cases hx
    have ls : (r.drop (r.length - i)).length = i := by rw [List.length_drop]; omega
    have dt := drop_top hi
    generalize r.drop (r.length - i) = sfx at ls dt gl ⊢
    rw [dt]
    have ll : l.length ≤ 21 := len_of okl fun k hk => by rw [gl, putI_out lt sfx k (by omega)]
    refine ⟨z, rfl, v, rfl, z, v, l, t, rfl, rl, hv1.kt (Kt.of s'), okl, okt, by omega, by omega, by omega, fun c hc d hd => .inr (Nat.lt_of_le_of_lt (b6 d hd) (by decide)), fun z2 l2 H2 s2 r2 ok2 g2 => ?_⟩
    have l2l : l2.length ≤ 40 := len_of ok2 fun k hk => by
      rw [g2]
      exact cv_out' (a := 20) (b := 4) (fun i hi => g_none (by omega)) (fun i hi => g_none (by omega)) (by omega)
    have fin : ∀ (d : List Int) (p : Addr) H3, Same H2 H3 → H3 p = some (.tup (d.map V.int)) → d.length ≤ 1 → (∀ k, g d k = if k = 0 then r[r.length - 1 - i] else 0) → spAddR [z2, .ref p] H3 (fun z4 H4 => ∃ z' x3 l', ([some (.ref pu), some v, some z, some (.int r[r.length - 1 - i])] : L2.St).set 2 (some z4) = [some (.ref pu), some v, some z', x3] ∧ Same H1 H4 ∧ Ro H4 z' l' ∧ okR l' ∧ ∀ k, g l' k = putI t (r[r.length - 1 - i] :: sfx) k) E0 := fun d p H3 s3 ep ld gd => by
      refine ⟨z2, .ref p, l2, d, rfl, r2.kt (Kt.of s3), ⟨p, rfl, ep⟩, by omega, by omega, fun z4 l4 H4 s5 r4 ok4 g4 => ?_⟩
      refine ⟨z4, some (.int r[r.length - 1 - i]), l4, rfl, s'.trans (s2.trans (s3.trans s5)), r4, ok4, fun k => ?_⟩
      rw [g4, g2, gd, putI]
      congr 1
      unfold cv
      exact S_ext _ fun m _ => by rw [gl]
    refine ⟨.int _, rfl, _, rfl, ?_⟩
    by_cases c0 : r[r.length - 1 - i] = 0
    · rw [show (r[r.length - 1 - i] != 0) = false from by rw [c0]; rfl]
      refine iteF ⟨sz (by simp), fun p np => fin [] p _ (same_new np) upd_same (by simp) fun k => ?_⟩
      rw [g_none (Nat.zero_le _), c0]
      split <;> rfl
    · rw [show (r[r.length - 1 - i] != 0) = true from bne_iff_ne.mpr c0]
      refine iteT ⟨.int _, rfl, sz (by simp), fun p np => fin [r[r.length - 1 - i]] p _ (same_new np) upd_same (by simp) fun k => ?_⟩
      cases k with
      | zero => rfl
      | succ k => rw [if_neg (by omega)]; rfl
  · rintro σ H' ⟨z, x3, l, rfl, s', rl, okl, gl⟩
    rw [List.length_map, Nat.sub_self, List.drop_zero] at gl
    exact ⟨z, rfl, q z l H' (s0.trans s') rl okl gl⟩
end
end K02

set_option Elab.async false
set_option linter.all false
set_option maxRecDepth 100000
set_option maxHeartbeats 4000000
local macro_rules | `(tactic| walk_at "rd") => `(tactic| dsimp only [Evl.tCut, L2.tSeq, L2.tNext, L2.tRet, L2.tRetN, L2.tAsg, L2.gName, L2.tIfS, L2.tDrop, L2.tCons, L2.tNil, L2.tC, L2.tVar, L2.tCB, L2.tAndV, L2.tOrV, L2.tNotV, L2.tB, L2.tTest, L2.tOp, L2.tUn, L2.tNot, L2.tAnd, L2.tOr, L2.tIf, L2.tCall, L2.tTup, L2.tLst, L2.tNotT, L2.tYes, L2.gTup, L2.gCons, L2.gNil, L2.gSub, L2.tBM0, L2.tBM, L2.tWhile, L2.tFor, L2.iRng1, L2.iRng2, L2.tAugS, Tw.iEnumT, L2.tCKw, L2.tAug, L2.ipI, RT.iRevA, L2.tPar, L2.tPar3, L2.tSl, L2.tNoPart, L2.tPart, Tw.tRevT])
namespace K02
open PySem PySem.Spec PyProof.Rows L2 Tw
def spChkR : Sp := fun vs H Q _ => ∃ a v r, vs = [v] ∧ We a H ∧ Ro H v r ∧ okR r ∧ r.length ≤ 100 ∧ ∀ x H', Same H H' → Q x H'
def spChkBoth : Sp := fun vs H Q _ => ∃ a u v r s, vs = [u, v] ∧ We a H ∧ Ro H u r ∧ Ro H v s ∧ okR r ∧ okR s ∧ r.length ≤ 100 ∧ s.length ≤ 100 ∧ ∀ x H', Same H H' → Q x H'
def spApPlus : Sp := fun vs H Q _ => ∃ a u v r s, vs = [u, v] ∧ We a H ∧ Ro H u r ∧ Ro H v s ∧ okR r ∧ okR s ∧ r.length ≤ 5 ∧ s.length ≤ 5 ∧ CM r s ∧ B6 s ∧ ∀ z t H', Same H H' → Ro H' z t → okR t → (∀ k, g t k = g r k + g s k) → Q z H'
def spApLess : Sp := fun vs H Q _ => ∃ a u v r s, vs = [u, v] ∧ We a H ∧ Ro H u r ∧ Ro H v s ∧ okR r ∧ okR s ∧ r.length ≤ 5 ∧ s.length ≤ 5 ∧ CM r s ∧ B6 s ∧ ∀ z t H', Same H H' → Ro H' z t → okR t → (∀ k, g t k = g r k + (-1) * g s k) → Q z H'
def spApTimes : Sp := fun vs H Q _ => ∃ a u v r s, vs = [u, v] ∧ We a H ∧ Ro H u r ∧ Ro H v s ∧ okR r ∧ okR s ∧ r.length ≤ 5 ∧ s.length ≤ 5 ∧ CM r s ∧ B6 s ∧ ∀ z t H', Same H H' → Ro H' z t → okR t → (∀ k, g t k = cv (g r) (g s) k) → Q z H'
def spApPut : Sp := fun vs H Q _ => ∃ a u v r s, vs = [u, v] ∧ We a H ∧ Ro H u r ∧ Ro H v s ∧ okR r ∧ okR s ∧ r.length ≤ 5 ∧ s.length ≤ 5 ∧ CM r s ∧ B6 s ∧ ∀ z t H', Same H H' → Ro H' z t → okR t → (∀ k, g t k = putI s r k) → Q z H'
def spApDer : Sp := fun vs H Q _ => ∃ a u r, vs = [u] ∧ We a H ∧ Ro H u r ∧ okR r ∧ r.length ≤ 100 ∧ ∀ z t H', Same H H' → Ro H' z t → okR t → (∀ k, g t k = ((k + 1 : Nat) : Int) * g r (k + 1)) → Q z H'
def spApPrime : Sp := fun vs H Q _ => ∃ a u r, vs = [u] ∧ We a H ∧ Ro H u r ∧ okR r ∧ r.length ≤ 100 ∧ B6 r ∧ ∀ z H', Same H H' → Ro H' z (primeI r) → Q z H'
def spApVal : Sp := fun vs H Q _ => ∃ a u v r n m, vs = [u, v] ∧ We a H ∧ Ro H u r ∧ okR r ∧ Pr H v n m ∧ Sp2 n m ∧ r.length ≤ 8 ∧ ∀ z a b H', Same H H' → Pr H' z a b → Lo a b (T n m r) (m ^ (r.length - 1)) → Q z H'
section
variable {P : Program} {w : World} {K : PySem.W.Frag} {mg : Str → Option Value} {base : Heap}
theorem scChkR : FnScope ["row"] ["row"] (defScope sChkR) := ⟨rfl, rfl, rfl, by decide +kernel, rfl, by decide +kernel, by decide +kernel⟩
theorem ok_chkr (D : Def K mg "check_row" sChkR ["row"]) (c1 : Cal P w K mg base "is_row" 2 ["value"] (spB rowB)) : Cal P w K mg base "check_row" 3 ["row"] spChkR := by
  refine D.ok scChkR (fun vs H Q E h => ?_) (fun f cdv A out s H vs Q E hr h => ?_)
  · obtain ⟨a, v, r, rfl, _⟩ := h; rfl
  obtain ⟨a, v, r, rfl, hw, hv, ok, hl, q⟩ := h
  refine ⟨_, pss_one (ps_if (pt_not (pt_val (pe_cal c1 hr (by decide) (by rfl) (pa_cons (pv 0) pa_nil)))) pss_dead pss_nil), ?_⟩
  walk_at "rd"
  refine ⟨v, rfl, a, v, rowD r, 1, rfl, da_row hw hv, (sm_row hl).up (Nat.le_refl _) (by decide), fun H1 s1 => ⟨true, ?_, ?_⟩⟩
  · rw [rowB_ok ok]
  · exact iteF (q _ H1 s1)
theorem scChkBoth : FnScope ["row", "other"] ["row", "other"] (defScope sChkBoth) := ⟨rfl, rfl, rfl, by decide +kernel, rfl, by decide +kernel, by decide +kernel⟩
theorem ok_chkboth (D : Def K mg "check_both" sChkBoth ["row", "other"]) (c1 : Cal P w K mg base "check_row" 3 ["row"] spChkR) : Cal P w K mg base "check_both" 4 ["row", "other"] spChkBoth := by
  refine D.ok scChkBoth (fun vs H Q E h => ?_) (fun f cdv A out s H vs Q E hr h => ?_)
  · obtain ⟨a, u, v, r, s, rfl, _⟩ := h; rfl
  obtain ⟨a, u, v, r, t, rfl, hw, hu, hv, okr, okt, lr, lt, q⟩ := h
  refine ⟨_, pss_cons (ps_expr (pe_cal c1 hr (by decide) (by rfl) (pa_cons (pv 0) pa_nil))) (pss_one (ps_expr (pe_cal c1 hr (by decide) (by rfl) (pa_cons (pv 1) pa_nil)))), ?_⟩
  walk_at "rd"
  exact ⟨u, rfl, a, u, r, rfl, hw, hu, okr, lr, fun x H1 s1 => ⟨v, rfl, a, v, t, rfl, hw.to s1, hv.kt (Kt.of s1), okt, lt, fun y H2 s2 => q _ H2 (s1.trans s2)⟩⟩
theorem scApPlus : FnScope ["row", "other"] ["row", "other"] (defScope sApPlus) := ⟨rfl, rfl, rfl, by decide +kernel, rfl, by decide +kernel, by decide +kernel⟩
theorem ok_applus (D : Def K mg "plus" sApPlus ["row", "other"]) (c1 : Cal P w K mg base "check_both" 4 ["row", "other"] spChkBoth) (c2 : Cal P w K mg base "row_sum" 2 ["row", "other"] spAddR) : Cal P w K mg base "plus" 5 ["row", "other"] spApPlus := by
  refine D.ok scApPlus (fun vs H Q E h => ?_) (fun f cdv A out s H vs Q E hr h => ?_)
  · obtain ⟨a, u, v, r, s, rfl, _⟩ := h; rfl
  obtain ⟨a, u, v, r, t, rfl, hw, hu, hv, okr, okt, lr, lt, cm, b6, q⟩ := h
  refine ⟨_, pss_cons (ps_expr (pe_cal c1 hr (by decide) (by rfl) (pa_cons (pv 0) (pa_cons (pv 1) pa_nil)))) (pss_one (ps_ret (pe_cal c2 hr (by decide) (by rfl) (pa_cons (pv 0) (pa_cons (pv 1) pa_nil))))), ?_⟩
  walk_at "rd"
  exact ⟨u, rfl, v, rfl, a, u, v, r, t, rfl, hw, hu, hv, okr, okt, by omega, by omega, fun x H1 s1 => ⟨u, rfl, v, rfl, u, v, r, t, rfl, hu.kt (Kt.of s1), hv.kt (Kt.of s1), by omega, by omega, fun z l H2 s2 rz okl gl => q z l H2 (s1.trans s2) rz okl gl⟩⟩
theorem scApLess : FnScope ["row", "other"] ["row", "other"] (defScope sApLess) := ⟨rfl, rfl, rfl, by decide +kernel, rfl, by decide +kernel, by decide +kernel⟩
theorem ok_apless (D : Def K mg "less" sApLess ["row", "other"]) (c1 : Cal P w K mg base "check_both" 4 ["row", "other"] spChkBoth) (c2 : Cal P w K mg base "row_less" 3 ["row", "other"] spLess) : Cal P w K mg base "less" 5 ["row", "other"] spApLess := by
  refine D.ok scApLess (fun vs H Q E h => ?_) (fun f cdv A out s H vs Q E hr h => ?_)
  · obtain ⟨a, u, v, r, s, rfl, _⟩ := h; rfl
  obtain ⟨a, u, v, r, t, rfl, hw, hu, hv, okr, okt, lr, lt, cm, b6, q⟩ := h
  refine ⟨_, pss_cons (ps_expr (pe_cal c1 hr (by decide) (by rfl) (pa_cons (pv 0) (pa_cons (pv 1) pa_nil)))) (pss_one (ps_ret (pe_cal c2 hr (by decide) (by rfl) (pa_cons (pv 0) (pa_cons (pv 1) pa_nil))))), ?_⟩
  walk_at "rd"
  exact ⟨u, rfl, v, rfl, a, u, v, r, t, rfl, hw, hu, hv, okr, okt, by omega, by omega, fun x H1 s1 => ⟨u, rfl, v, rfl, u, v, r, t, rfl, hu.kt (Kt.of s1), hv.kt (Kt.of s1), okt, by omega, by omega, fun z l H2 s2 rz okl gl => q z l H2 (s1.trans s2) rz okl gl⟩⟩
theorem scApTimes : FnScope ["row", "other"] ["row", "other"] (defScope sApTimes) := ⟨rfl, rfl, rfl, by decide +kernel, rfl, by decide +kernel, by decide +kernel⟩
theorem ok_aptimes (D : Def K mg "times" sApTimes ["row", "other"]) (c1 : Cal P w K mg base "check_both" 4 ["row", "other"] spChkBoth) (c2 : Cal P w K mg base "row_times" 1 ["row", "other"] spMulR) : Cal P w K mg base "times" 5 ["row", "other"] spApTimes := by
  refine D.ok scApTimes (fun vs H Q E h => ?_) (fun f cdv A out s H vs Q E hr h => ?_)
  · obtain ⟨a, u, v, r, s, rfl, _⟩ := h; rfl
  obtain ⟨a, u, v, r, t, rfl, hw, hu, hv, okr, okt, lr, lt, cm, b6, q⟩ := h
  refine ⟨_, pss_cons (ps_expr (pe_cal c1 hr (by decide) (by rfl) (pa_cons (pv 0) (pa_cons (pv 1) pa_nil)))) (pss_one (ps_ret (pe_cal c2 hr (by decide) (by rfl) (pa_cons (pv 0) (pa_cons (pv 1) pa_nil))))), ?_⟩
  walk_at "rd"
  exact ⟨u, rfl, v, rfl, a, u, v, r, t, rfl, hw, hu, hv, okr, okt, by omega, by omega, fun x H1 s1 => ⟨u, rfl, v, rfl, u, v, r, t, rfl, hu.kt (Kt.of s1), hv.kt (Kt.of s1), okr, okt, by omega, by omega, by omega, cm, fun z l H2 s2 rz okl gl => q z l H2 (s1.trans s2) rz okl gl⟩⟩
theorem scApPut : FnScope ["row", "other"] ["row", "other"] (defScope sApPut) := ⟨rfl, rfl, rfl, by decide +kernel, rfl, by decide +kernel, by decide +kernel⟩
theorem ok_apput (D : Def K mg "put_in" sApPut ["row", "other"]) (c1 : Cal P w K mg base "check_both" 4 ["row", "other"] spChkBoth) (c2 : Cal P w K mg base "row_put_in" 3 ["row", "other"] spPutIn) : Cal P w K mg base "put_in" 5 ["row", "other"] spApPut := by
  refine D.ok scApPut (fun vs H Q E h => ?_) (fun f cdv A out s H vs Q E hr h => ?_)
  · obtain ⟨a, u, v, r, s, rfl, _⟩ := h; rfl
  obtain ⟨a, u, v, r, t, rfl, hw, hu, hv, okr, okt, lr, lt, cm, b6, q⟩ := h
  refine ⟨_, pss_cons (ps_expr (pe_cal c1 hr (by decide) (by rfl) (pa_cons (pv 0) (pa_cons (pv 1) pa_nil)))) (pss_one (ps_ret (pe_cal c2 hr (by decide) (by rfl) (pa_cons (pv 0) (pa_cons (pv 1) pa_nil))))), ?_⟩
  walk_at "rd"
  exact ⟨u, rfl, v, rfl, a, u, v, r, t, rfl, hw, hu, hv, okr, okt, by omega, by omega, fun x H1 s1 => ⟨u, rfl, v, rfl, u, v, r, t, rfl, hu.kt (Kt.of s1), hv.kt (Kt.of s1), okr, okt, lr, lt, b6, fun z l H2 s2 rz okl gl => q z l H2 (s1.trans s2) rz okl gl⟩⟩
theorem scApDer : FnScope ["row"] ["row"] (defScope sApDer) := ⟨rfl, rfl, rfl, by decide +kernel, rfl, by decide +kernel, by decide +kernel⟩
theorem ok_apder (D : Def K mg "derivative" sApDer ["row"]) (c1 : Cal P w K mg base "check_row" 3 ["row"] spChkR) (c2 : Cal P w K mg base "row_derivative" 1 ["row"] spDeriv) : Cal P w K mg base "derivative" 4 ["row"] spApDer := by
  refine D.ok scApDer (fun vs H Q E h => ?_) (fun f cdv A out s H vs Q E hr h => ?_)
  · obtain ⟨a, u, r, rfl, _⟩ := h; rfl
  obtain ⟨a, u, r, rfl, hw, hu, okr, lr, q⟩ := h
  refine ⟨_, pss_cons (ps_expr (pe_cal c1 hr (by decide) (by rfl) (pa_cons (pv 0) pa_nil))) (pss_one (ps_ret (pe_cal c2 hr (by decide) (by rfl) (pa_cons (pv 0) pa_nil)))), ?_⟩
  walk_at "rd"
  exact ⟨u, rfl, a, u, r, rfl, hw, hu, okr, lr, fun x H1 s1 => ⟨u, rfl, u, r, rfl, hu.kt (Kt.of s1), okr, lr, fun z t H2 s2 rz ok gt => q z t H2 (s1.trans s2) rz ok gt⟩⟩
theorem scApPrime : FnScope ["row"] ["row"] (defScope sApPrime) := ⟨rfl, rfl, rfl, by decide +kernel, rfl, by decide +kernel, by decide +kernel⟩
theorem ok_approme (D : Def K mg "prime_part" sApPrime ["row"]) (c1 : Cal P w K mg base "check_row" 3 ["row"] spChkR) (c2 : Cal P w K mg base "row_prime" 2 ["row"] spPrime) : Cal P w K mg base "prime_part" 4 ["row"] spApPrime := by
  refine D.ok scApPrime (fun vs H Q E h => ?_) (fun f cdv A out s H vs Q E hr h => ?_)
  · obtain ⟨a, u, r, rfl, _⟩ := h; rfl
  obtain ⟨a, u, r, rfl, hw, hu, okr, lr, b6, q⟩ := h
  refine ⟨_, pss_cons (ps_expr (pe_cal c1 hr (by decide) (by rfl) (pa_cons (pv 0) pa_nil))) (pss_one (ps_ret (pe_cal c2 hr (by decide) (by rfl) (pa_cons (pv 0) pa_nil)))), ?_⟩
  walk_at "rd"
  exact ⟨u, rfl, a, u, r, rfl, hw, hu, okr, lr, fun x H1 s1 => ⟨u, rfl, u, r, rfl, hu.kt (Kt.of s1), okr, lr, b6, fun z H2 s2 rz => q z H2 (s1.trans s2) rz⟩⟩
theorem scApVal : FnScope ["row", "fraction"] ["row", "fraction"] (defScope sApVal) := ⟨rfl, rfl, rfl, by decide +kernel, rfl, by decide +kernel, by decide +kernel⟩
theorem ok_apval (D : Def K mg "value_at" sApVal ["row", "fraction"]) (c1 : Cal P w K mg base "check_row" 3 ["row"] spChkR) (c2 : Cal P w K mg base "is_fraction" 2 ["value"] spFrac) (c3 : Cal P w K mg base "row_value" 2 ["row", "fraction"] spRVal) : Cal P w K mg base "value_at" 4 ["row", "fraction"] spApVal := by
  refine D.ok scApVal (fun vs H Q E h => ?_) (fun f cdv A out s H vs Q E hr h => ?_)
  · obtain ⟨a, u, v, r, n, m, rfl, _⟩ := h; rfl
  obtain ⟨a, u, v, r, n, m, rfl, hw, hu, okr, hv, sp, lr, q⟩ := h
  refine ⟨_, pss_cons (ps_expr (pe_cal c1 hr (by decide) (by rfl) (pa_cons (pv 0) pa_nil))) (pss_cons (ps_if (pt_not (pt_val (pe_cal c2 hr (by decide) (by rfl) (pa_cons (pv 1) pa_nil)))) pss_dead pss_nil)
    (pss_one (ps_ret (pe_cal c3 hr (by decide) (by rfl) (pa_cons (pv 0) (pa_cons (pv 1) pa_nil)))))), ?_⟩
  walk_at "rd"
  refine ⟨u, rfl, a, u, r, rfl, hw, hu, okr, by omega, fun x H1 s1 => ⟨v, rfl, v, n, m, rfl, hv.kt (Kt.of s1), sp.2.1, sp.2.2.2, fun H2 s2 => ⟨true, rfl, iteF ?_⟩⟩⟩
  have s12 := s1.trans s2
  exact ⟨u, rfl, v, rfl, u, v, r, n, m, rfl, hu.kt (Kt.of s12), hv.kt (Kt.of s12), sp, lr, fun z a b H3 s3 pz lz => q z a b H3 (s12.trans s3) pz lz⟩
end
end K02

set_option Elab.async false
set_option linter.all false
set_option maxRecDepth 100000
set_option maxHeartbeats 4000000
local macro_rules | `(tactic| walk_at "rd") => `(tactic| dsimp only [Evl.tCut, L2.tSeq, L2.tNext, L2.tRet, L2.tRetN, L2.tAsg, L2.gName, L2.tIfS, L2.tDrop, L2.tCons, L2.tNil, L2.tC, L2.tVar, L2.tCB, L2.tAndV, L2.tOrV, L2.tNotV, L2.tB, L2.tTest, L2.tOp, L2.tUn, L2.tNot, L2.tAnd, L2.tOr, L2.tIf, L2.tCall, L2.tTup, L2.tLst, L2.tNotT, L2.tYes, L2.gTup, L2.gCons, L2.gNil, L2.gSub, L2.tBM0, L2.tBM, L2.tWhile, L2.tFor, L2.iRng1, L2.iRng2, L2.tAugS, Tw.iEnumT, L2.tCKw, L2.tAug, L2.ipI, RT.iRevA, L2.tPar, L2.tPar3, L2.tSl, L2.tNoPart, L2.tPart, Tw.tRevT])
namespace K02
open PySem PySem.Spec PyProof.Rows L2 Tw
/-! what is shown: lists of polys and fractions -/
def Shw (n : Nat) (d : PyData) : Prop := Nice 2 d ∧ PyData.showable d = true ∧ PyData.leavesShort 80 d = true ∧ PyData.weight d ≤ n
def Shl (n : Nat) (ds : List PyData) : Prop := (∀ d ∈ ds, Nice 2 d) ∧ PyData.showableAll ds = true ∧ PyData.leavesShortAll 80 ds = true ∧ PyData.weightAll ds ≤ n
theorem Shl.nil : Shl 0 [] := ⟨(fun d h => nomatch h), rfl, rfl, Nat.le_refl _⟩
theorem Shl.cons {n k : Nat} {d : PyData} {ds : List PyData} (h : Shw n d) (t : Shl k ds) : Shl (n + 1 + k) (d :: ds) := by
  obtain ⟨h1, h2, h3, h4⟩ := h
  obtain ⟨t1, t2, t3, t4⟩ := t
  refine ⟨fun e he => ?_, by rw [PyData.showableAll, h2, t2]; rfl, by rw [PyData.leavesShortAll, h3, t3]; rfl, by rw [PyData.weightAll]; omega⟩
  rcases List.mem_cons.mp he with rfl | he
  · exact h1
  · exact t1 e he
theorem Shl.up {n k : Nat} {ds : List PyData} (h : Shl n ds) (l : n ≤ k) : Shl k ds := ⟨h.1, h.2.1, h.2.2.1, Nat.le_trans h.2.2.2 l⟩
theorem Shl.app {n k : Nat} : ∀ {ds es : List PyData}, Shl n ds → Shl k es → Shl (n + k) (ds ++ es)
  | [], es, _, h => h.up (by omega)
  | d :: ds, es, g, h => by
    obtain ⟨g1, g2, g3, g4⟩ := g
    rw [PyData.showableAll, Bool.and_eq_true] at g2
    rw [PyData.leavesShortAll, Bool.and_eq_true] at g3
    rw [PyData.weightAll] at g4
    have t : Shl (n - (PyData.weight d + 1)) ds := ⟨fun e he => g1 e (List.mem_cons_of_mem _ he), g2.2, g3.2, by omega⟩
    have r := Shl.cons (n := PyData.weight d) (d := d) ⟨g1 d (by simp), g2.1, g3.1, Nat.le_refl _⟩ (Shl.app t h)
    exact r.up (by omega)
theorem log_big {c : Int} {a b : Nat} (h : c.natAbs < 10 ^ a) (hb : 10 ^ a ≤ 2 ^ b) (b0 : 0 < b) : c.natAbs.log2 < b := by
  by_cases z : c.natAbs = 0
  · rw [z]; simpa using b0
  · exact (Nat.log2_lt z).mpr (Nat.lt_of_lt_of_le h hb)
theorem shl_ints {a b : Nat} (ha : a ≤ 70) (hb : 10 ^ a ≤ 2 ^ b) (b0 : 0 < b) (b1 : b ≤ 1000) : ∀ r : List Int, (∀ c ∈ r, c.natAbs < 10 ^ a) → Shl (r.length * (b + 1)) (r.map PyData.int)
  | [], _ => Shl.nil.up (Nat.zero_le _)
  | c :: r, h => by
    have hc := h c (by simp)
    have lc := log_big hc hb b0
    have ih := shl_ints ha hb b0 b1 r fun d hd => h d (List.mem_cons_of_mem _ hd)
    have e : (c :: r).length * (b + 1) = b + 1 + r.length * (b + 1) := by rw [List.length_cons, Nat.succ_mul, Nat.add_comm]
    rw [List.map_cons, e]
    refine Shl.cons ⟨(nice_int c).up (by decide), by rw [PyData.showable, decide_eq_true (by omega)], ?_, ?_⟩ ih
    · have : (PyData.shown (.int c)).length ≤ 80 := by
        show (Str.ofString (toString c)).length ≤ 80
        rw [PySem.ofString_length]
        exact Nat.le_trans (int_text_length_le10 (k := 70) (by decide) (Nat.lt_of_lt_of_le hc (Nat.pow_le_pow_right (by decide) ha))) (by decide)
      rw [PyData.leavesShort, decide_eq_true this]
    · rw [PyData.weight]
      split <;> omega
theorem shw_row {a b : Nat} (ha : a ≤ 70) (hb : 10 ^ a ≤ 2 ^ b) (b0 : 0 < b) (b1 : b ≤ 1000) {r : List Int} (hr : r.length ≤ 8) (h : ∀ c ∈ r, c.natAbs < 10 ^ a) : Shw (8 * (b + 1)) (rowD r) := by
  have s := shl_ints ha hb b0 b1 r h
  unfold rowD
  refine ⟨(nice_row r).up (by decide), by rw [PyData.showable]; exact s.2.1, by rw [PyData.leavesShort]; exact s.2.2.1, ?_⟩
  rw [PyData.weight]
  exact Nat.le_trans s.2.2.2 (Nat.mul_le_mul_right _ hr)
theorem shw_fr {x y : Int} (hx : x.natAbs < 10 ^ 70) (hy : y.natAbs < 10 ^ 70) : Shw 1928 (rowD [x, y]) := shw_row (a := 70) (b := 240) (by decide) (by decide) (by decide) (by decide) (by simp) fun c hc => by
  rcases List.mem_cons.mp hc with rfl | hc
  · exact hx
  · rw [List.mem_singleton.mp hc]; exact hy
theorem show_list {K : PySem.W.Frag} {H : Hp} {T : Addr} {xs : List V} {ds : List PyData} {a : Addr} {Q : VK} {n : Nat} (e : H T = some (.lst xs)) (r : DaAll a H xs ds) (s : Shl n ds) (hn : n ≤ 200000) (q : Q (.str (PyData.list ds).shown) H) : rShow K [.ref T] H Q := by
  obtain ⟨s1, s2, s3, s4⟩ := s
  refine ⟨T, .list ds, rfl, .lst (SqL.of e) (r.dp (canAll fun d hd => (s1 d hd).1)), (nice_lst s1).shaped (by decide), ?_, ?_, q⟩
  · rw [PyData.showable]; exact s2
  · have h := PyData.shown_le 80 (by decide) (.list ds) (by rw [PyData.leavesShort]; exact s3)
    rw [PyData.weight] at h
    refine Nat.le_trans h (Nat.le_trans ?_ (show 16777216 ≤ sizeLine by decide))
    omega
theorem da_fr {a : Addr} {H : Hp} {v : V} {x y : Int} (w : We a H) (h : Pr H v x y) : Da a H v (rowD [x, y]) := by
  obtain ⟨p, rfl, e⟩ := h
  exact .tup (We.nt w e) e (.cons (.int _) (.cons (.int _) .nil))
/-- repr of True, False -/
def rShowB : List V → Hp → VK → Prop := fun xs H Q => ∃ b : Bool, xs = [.bl b] ∧ Q (.str (if b then "True" else "False")) H
theorem call_showB {X : Cx} : CallR X (.builtin "repr") rShowB := by
  intro pins s σ H xs us Q I r h
  obtain ⟨b, rfl, q⟩ := h
  obtain ⟨u, rfl, rx⟩ := vals1 r
  cases rx
  exact PySem.P.repr_of_bool ⟨.str _, H, I.tok _, ⟨_, rfl⟩, q⟩
theorem row_two {a : Addr} {H H' : Hp} {u v : V} {r s : List Int} (w : We a H) (w' : We a H') (h : Ro H u r) (h' : Ro H' v s) (e : r = s) (hl : s.length ≤ 60) (hb : ∀ c ∈ s, c.natAbs < 10 ^ 70) : ∃ d, Da a H u d ∧ Da a H' v d ∧ Shw 15000 d := by
  subst e
  have s := shl_ints (a := 70) (b := 240) (by decide) (by decide) (by decide) (by decide) r hb
  refine ⟨_, da_row w h, da_row w' h', (nice_row r).up (by decide), by unfold rowD; rw [PyData.showable]; exact s.2.1, by unfold rowD; rw [PyData.leavesShort]; exact s.2.2.1, ?_⟩
  unfold rowD
  rw [PyData.weight]
  exact Nat.le_trans s.2.2.2 (Nat.le_trans (Nat.mul_le_mul_right _ hl) (by decide))
theorem fr_two {a : Addr} {H H' : Hp} {u v : V} {x y x' y' N D : Int} (w : We a H) (w' : We a H') (D0 : 0 < D) (D1 : D < 10 ^ 70) (N1 : N.natAbs < 10 ^ 70) (h : Pr H u x y) (h' : Pr H' v x' y') (l : Lo x y N D) (l' : Lo x' y' N D) : ∃ d, Da a H u d ∧ Da a H' v d ∧ Shw 15000 d := by
  obtain ⟨rfl, rfl⟩ := lo_uniq l l' D0
  have := lo_le l D0
  have := l.1
  obtain ⟨s1, s2, s3, s4⟩ := shw_fr (x := x) (y := y) (Nat.lt_of_le_of_lt (lo_num l D0) N1) (by omega)
  exact ⟨_, da_fr w h, da_fr w' h', s1, s2, s3, Nat.le_trans s4 (by decide)⟩
end K02

set_option Elab.async false
set_option linter.all false
set_option maxRecDepth 100000
set_option maxHeartbeats 8000000
local macro_rules | `(tactic| walk_at "rd") => `(tactic| dsimp only [Evl.tCut, L2.tSeq, L2.tNext, L2.tRet, L2.tRetN, L2.tAsg, L2.gName, L2.tIfS, L2.tDrop, L2.tCons, L2.tNil, L2.tC, L2.tVar, L2.tCB, L2.tAndV, L2.tOrV, L2.tNotV, L2.tB, L2.tTest, L2.tOp, L2.tUn, L2.tNot, L2.tAnd, L2.tOr, L2.tIf, L2.tCall, L2.tTup, L2.tLst, L2.tNotT, L2.tYes, L2.gTup, L2.gCons, L2.gNil, L2.gSub, L2.tBM0, L2.tBM, L2.tWhile, L2.tFor, L2.iRng1, L2.iRng2, L2.tAugS, Tw.iEnumT, L2.tCKw, L2.tAug, L2.ipI, RT.iRevA, L2.tPar, L2.tPar3, L2.tSl, L2.tNoPart, L2.tPart, Tw.tRevT])
namespace K02
open PySem PySem.Spec PyProof.Rows L2 Tw
def swp {α : Type} : List α → List α
  | [x, p] => [p, x]
  | us => us
theorem swp_rel {zs : List V} {us : List Value} (r : Vals zs us) (h : us.length = 2) : Vals (swp zs) (swp us) := by
  cases r with
  | nil => simp at h
  | cons r1 r2 =>
    cases r2 with
    | nil => simp at h
    | cons r3 r4 =>
      cases r4 with
      | nil => exact .cons r3 (.cons r1 .nil)
      | cons _ _ => simp at h
def Rw (t : List Int) : Prop := t.length ≤ 60 ∧ ∀ c ∈ t, c.natAbs < 10 ^ 70
theorem rw_of {t : List Int} {n B : Nat} (ok : okR t) (z : ∀ k, n ≤ k → g t k = 0) (b : ∀ k, (g t k).natAbs ≤ B) (hn : n ≤ 60) (hB : B < 10 ^ 70) : Rw t := ⟨Nat.le_trans (len_of ok z) hn, fun c hc => by
  obtain ⟨i, hi, rfl⟩ := List.mem_iff_getElem.mp hc
  have := b i
  rw [g_some hi] at this
  omega⟩
theorem b6g {r : List Int} (h : B6 r) (k : Nat) : (g r k).natAbs ≤ 1000000 := by
  rcases Nat.lt_or_ge k r.length with c | c
  · rw [g_some c]; exact h _ (List.getElem_mem c)
  · rw [g_none c]; decide
theorem shw_r {t : List Int} (h : Rw t) : Shw 15000 (rowD t) := by
  have s := shl_ints (a := 70) (b := 240) (by decide) (by decide) (by decide) (by decide) t h.2
  refine ⟨(nice_row t).up (by decide), by unfold rowD; rw [PyData.showable]; exact s.2.1, by unfold rowD; rw [PyData.leavesShort]; exact s.2.2.1, ?_⟩
  unfold rowD
  rw [PyData.weight]
  exact Nat.le_trans s.2.2.2 (Nat.le_trans (Nat.mul_le_mul_right _ h.1) (by decide))
def spRight : Sp := fun vs H Q _ => ∃ a, vs = [.ref a] ∧ We a H ∧ ∀ H', Kp a H H' → Q (.bl true) H'
section
variable {P : Program} {w : World} {K : PySem.W.Frag} {mg : Str → Option Value} {base : Heap}
theorem scRight : FnScope ["_law_well_here", "_law_one", "_law_part_here", "_law_two", "_law_due", "_law_told", "_law_some", "_law_each"] ["_law_well_here"] (defScope sRight) := ⟨rfl, rfl, rfl, by decide +kernel, rfl, by decide +kernel, by decide +kernel⟩
theorem ok_right (D : Def K mg "_law_right" sRight ["_law_well_here"]) (nb : Nb mg) (DPl : Def K mg "plus" sApPlus ["row", "other"]) (DLe : Def K mg "less" sApLess ["row", "other"]) (DTi : Def K mg "times" sApTimes ["row", "other"]) (DDe : Def K mg "derivative" sApDer ["row"]) (DVa : Def K mg "value_at" sApVal ["row", "fraction"]) (DPm : Def K mg "prime_part" sApPrime ["row"]) (DPu : Def K mg "put_in" sApPut ["row", "other"])
    (cLn : Cal P w K mg base "_law_line" 3 ["_law_well_here", "_law_few"] spRowM) (cPart : Cal P w K mg base "_law_part" 3 ["_law_well_here"] spPart) (cD : Cal P w K mg base "_law_draw" 1 ["_law_well_here", "_law_few"] spDraw) (cTu : Cal P w K mg base "_law_turned" 3 ["_law_well_here", "_law_one"] spTurned)
    (cSum : Cal P w K mg base "_law_sum" 2 ["_law_one", "_law_two"] spLSum) (cSc : Cal P w K mg base "_law_scaled" 2 ["_law_line_here", "_law_by"] spLScaled) (cPr : Cal P w K mg base "_law_product" 2 ["_law_one", "_law_two"] spProd) (cSl : Cal P w K mg base "_law_slope" 1 ["_law_line_here"] spSlope)
    (cWo : Cal P w K mg base "_law_worth" 3 ["_law_line_here", "_law_part_here"] spWorth) (cPm : Cal P w K mg base "_law_prime" 3 ["_law_line_here"] spPrime) (cPi : Cal P w K mg base "_law_put_in" 3 ["_law_one", "_law_two"] spPutIn)
    (aPl : Cal P w K mg base "plus" 5 ["row", "other"] spApPlus) (aLe : Cal P w K mg base "less" 5 ["row", "other"] spApLess) (aTi : Cal P w K mg base "times" 5 ["row", "other"] spApTimes) (aDe : Cal P w K mg base "derivative" 4 ["row"] spApDer) (aVa : Cal P w K mg base "value_at" 4 ["row", "fraction"] spApVal) (aPm : Cal P w K mg base "prime_part" 4 ["row"] spApPrime) (aPu : Cal P w K mg base "put_in" 5 ["row", "other"] spApPut)
    (cB : Cal P w K mg base "_law_bent" 13 ["_law_well_here", "_law_thing"] (spBent 10)) (cO : Cal P w K mg base "_law_odd" 3 ["_law_well_here"] spOdd) (cR : Cal P w K mg base "is_row" 2 ["value"] (spB rowB)) (cL : Cal P w K mg base "_law_is_row" 2 ["_law_thing"] (spB rowB)) : CalG P w K mg base "_law_right" 14 ["_law_well_here"] spRight := by
  refine D.okG scRight (fun vs H Q E h => ?_) (fun f cdv A out s H vs Q E hq hr h => ?_)
  · obtain ⟨a, rfl, _⟩ := h; rfl
  obtain ⟨a, rfl, hw, q⟩ := h
  have hu : (A.deeper (envOfC "_law_right" (defScope sRight) s.heap.objs.size f cdv)).units + 70 < cLine := by have := hr.un; omega
  refine ⟨_, (pss_cons (ps_par (i := 1) (j := 2) rfl scRight.nd rfl rfl (by decide) rfl rfl (pa_cons (pe_cal cLn hr (by decide) (by rfl) (pa_cons (pv 0) (pa_cons pe_int pa_nil))) (pa_cons (pe_cal cPart hr (by decide) (by rfl) (pa_cons (pv 0) pa_nil)) pa_nil)) rfl)
    (Evl.pss_cut (ps_set (i := 3) scRight.nd rfl (Or.inl rfl) (pe_ifExp (pt_cmpR op_eq (pe_cal cD hr (by decide) (by rfl) (pa_cons (pv 0) (pa_cons pe_int pa_nil))) pe_int (nomark _)) (pe_cal cTu hr (by decide) (by rfl) (pa_cons (pv 0) (pa_cons (pv 1) pa_nil))) (pe_cal cLn hr (by decide) (by rfl) (pa_cons (pv 0) (pa_cons pe_int pa_nil)))))
    (pss_cons (ps_set (i := 4) scRight.nd rfl (Or.inl rfl) (pe_lst (pa_cons (pe_cal cSum hr (by decide) (by rfl) (pa_cons (pv 1) (pa_cons (pv 3) pa_nil))) (pa_cons (pe_cal cSum hr (by decide) (by rfl) (pa_cons (pv 1) (pa_cons (pe_cal cSc hr (by decide) (by rfl) (pa_cons (pv 3) (pa_cons (pe_op op_sub pe_int pe_int) pa_nil))) pa_nil))) (pa_cons (pe_cal cPr hr (by decide) (by rfl) (pa_cons (pv 1) (pa_cons (pv 3) pa_nil))) (pa_cons (pe_cal cSl hr (by decide) (by rfl) (pa_cons (pv 1) pa_nil)) pa_nil))))))
    (pss_cons (ps_set (i := 4) scRight.nd rfl (Or.inl rfl) (pe_op op_cat (pv 4) (pe_lst (pa_cons (pe_cal cWo hr (by decide) (by rfl) (pa_cons (pv 1) (pa_cons (pv 2) pa_nil))) (pa_cons (pe_cal cPm hr (by decide) (by rfl) (pa_cons (pv 1) pa_nil)) (pa_cons (pe_cal cPi hr (by decide) (by rfl) (pa_cons (pv 1) (pa_cons (pv 3) pa_nil))) (pa_cons (pe_cal cPi hr (by decide) (by rfl) (pa_cons (pv 3) (pa_cons (pv 1) pa_nil))) pa_nil)))))))
    (pss_cons (ps_set (i := 5) scRight.nd rfl (Or.inl rfl) (pe_lst (pa_cons (pe_cal aPl hr (by decide) (by rfl) (pa_cons (pv 1) (pa_cons (pv 3) pa_nil))) (pa_cons (pe_cal aLe hr (by decide) (by rfl) (pa_cons (pv 1) (pa_cons (pv 3) pa_nil))) (pa_cons (pe_cal aTi hr (by decide) (by rfl) (pa_cons (pv 1) (pa_cons (pv 3) pa_nil))) (pa_cons (pe_cal aDe hr (by decide) (by rfl) (pa_cons (pv 1) pa_nil)) pa_nil))))))
    (pss_cons (ps_set (i := 5) scRight.nd rfl (Or.inl rfl) (pe_op op_cat (pv 5) (pe_lst (pa_cons (pe_cal aVa hr (by decide) (by rfl) (pa_cons (pv 1) (pa_cons (pv 2) pa_nil))) (pa_cons (pe_cal aPm hr (by decide) (by rfl) (pa_cons (pv 1) pa_nil)) (pa_cons (pe_cal aPu hr (by decide) (by rfl) (pa_cons (pv 1) (pa_cons (pv 3) pa_nil))) (pa_cons (pe_cal aPu hr (by decide) (by rfl) (pa_cons (pv 3) (pa_cons (pv 1) pa_nil))) pa_nil)))))))
    (pss_cons (ps_if (pt_cmpR op_ne (pe_callB (id := "repr") (r := rShow K) (call_show hq hu) (by rfl) nb.repr (by decide +kernel) (pa_cons (pv 5) pa_nil)) (pe_callB (id := "repr") (r := rShow K) (call_show hq hu) (by rfl) nb.repr (by decide +kernel) (pa_cons (pv 4) pa_nil)) (nomark _)) (pss_one (ps_ret pe_bl)) pss_nil)
    (pss_cons (ps_set (i := 5) scRight.nd rfl (Or.inl rfl) (pe_lst (pa_cons (pe_calK (ks := ["other", "row"]) swp swp aPl DPl hr (by decide) (by rfl) (fun _ _ _ _ _ _ us hl => match us, hl with | [_, _], _ => rfl) swp_rel (pk_cons (pv 3) (pk_cons (pv 1) pk_nil)) (fun zs H Q h => by obtain ⟨v0, e0, v1, e1, q⟩ := h; exact ⟨v0, e0, v1, e1, rfl, q⟩)) (pa_cons (pe_calK (ks := ["other", "row"]) swp swp aLe DLe hr (by decide) (by rfl) (fun _ _ _ _ _ _ us hl => match us, hl with | [_, _], _ => rfl) swp_rel (pk_cons (pv 3) (pk_cons (pv 1) pk_nil)) (fun zs H Q h => by obtain ⟨v0, e0, v1, e1, q⟩ := h; exact ⟨v0, e0, v1, e1, rfl, q⟩)) (pa_cons (pe_calK (ks := ["other", "row"]) swp swp aTi DTi hr (by decide) (by rfl) (fun _ _ _ _ _ _ us hl => match us, hl with | [_, _], _ => rfl) swp_rel (pk_cons (pv 3) (pk_cons (pv 1) pk_nil)) (fun zs H Q h => by obtain ⟨v0, e0, v1, e1, q⟩ := h; exact ⟨v0, e0, v1, e1, rfl, q⟩)) (pa_cons (pe_calK (ks := ["row"]) (fun us => us) (fun zs => zs) aDe DDe hr (by decide) (by rfl) (fun _ _ _ _ _ _ us hl => match us, hl with | [_], _ => rfl) (fun r _ => r) (pk_cons (pv 1) pk_nil) (fun zs H Q h => by obtain ⟨v0, e0, q⟩ := h; exact ⟨v0, e0, rfl, q⟩)) pa_nil))))))
    (pss_cons (ps_set (i := 5) scRight.nd rfl (Or.inl rfl) (pe_op op_cat (pv 5) (pe_lst (pa_cons (pe_calK (ks := ["fraction", "row"]) swp swp aVa DVa hr (by decide) (by rfl) (fun _ _ _ _ _ _ us hl => match us, hl with | [_, _], _ => rfl) swp_rel (pk_cons (pv 2) (pk_cons (pv 1) pk_nil)) (fun zs H Q h => by obtain ⟨v0, e0, v1, e1, q⟩ := h; exact ⟨v0, e0, v1, e1, rfl, q⟩)) (pa_cons (pe_calK (ks := ["row"]) (fun us => us) (fun zs => zs) aPm DPm hr (by decide) (by rfl) (fun _ _ _ _ _ _ us hl => match us, hl with | [_], _ => rfl) (fun r _ => r) (pk_cons (pv 1) pk_nil) (fun zs H Q h => by obtain ⟨v0, e0, q⟩ := h; exact ⟨v0, e0, rfl, q⟩)) (pa_cons (pe_calK (ks := ["other", "row"]) swp swp aPu DPu hr (by decide) (by rfl) (fun _ _ _ _ _ _ us hl => match us, hl with | [_, _], _ => rfl) swp_rel (pk_cons (pv 3) (pk_cons (pv 1) pk_nil)) (fun zs H Q h => by obtain ⟨v0, e0, v1, e1, q⟩ := h; exact ⟨v0, e0, v1, e1, rfl, q⟩)) pa_nil))))))
    (pss_cons (ps_if (pt_cmpR op_ne (pe_callB (id := "repr") (r := rShow K) (call_show hq hu) (by rfl) nb.repr (by decide +kernel) (pa_cons (pv 5) pa_nil)) (pe_callB (id := "repr") (r := rShow K) (call_show hq hu) (by rfl) nb.repr (by decide +kernel) (pa_cons (pe_slice sl_list (pv 4) po_none (po_some pe_int)) pa_nil)) (nomark _)) (pss_one (ps_ret pe_bl)) pss_nil)
    (pss_cons (ps_set (i := 6) scRight.nd rfl (Or.inl rfl) (pe_lst (pa_cons (pv 1) (pa_cons (pv 2) (pa_cons (pe_callTy (T := "list") call_list_of (by rfl) nb.lst (by decide +kernel) (pa_cons (pv 3) pa_nil)) (pa_cons (pe_op op_catA (pv 1) (pe_tup (pa_cons pe_int pa_nil))) (pa_cons (pe_cal cB hr (by decide) (by rfl) (pa_cons (pv 0) (pa_cons (pv 1) pa_nil))) (pa_cons (pe_cal cB hr (by decide) (by rfl) (pa_cons (pv 0) (pa_cons (pv 3) pa_nil))) (pa_cons (pe_cal cO hr (by decide) (by rfl) (pa_cons (pv 0) pa_nil)) pa_nil)))))))))
    (pss_one (ps_ret (pe_callB (id := "all") (r := rAll K) (cr_all rfl) (by rfl) nb.all (by decide +kernel) (pa_cons
      (pe_lc (own := [("_law_each", 7)]) (g := gName 7) (tt := tYes) rfl scRight.nd (pi_list (pv 6)) (blkOk_by (N := ["_law_well_here", "_law_one", "_law_part_here", "_law_two", "_law_due", "_law_told", "_law_some", "_law_each"]) (sc := defScope sRight) (by decide +kernel))
        (fun _ _ _ _ _ => pg_name (i := 7) scRight.nd rfl (Or.inl rfl)) (fun _ _ _ _ _ => pts_nil)
        (fun _ _ _ _ _ => pe_cmpR op_eq (pe_callB (id := "repr") (r := rShowB) call_showB (by rfl) nb.repr (by decide +kernel) (pa_cons (pe_cal cR hr (by decide) (by rfl) (pa_cons (pv 7) pa_nil)) pa_nil)) (pe_callB (id := "repr") (r := rShowB) call_showB (by rfl) nb.repr (by decide +kernel) (pa_cons (pe_cal cL hr (by decide) (by rfl) (pa_cons (pv 7) pa_nil)) pa_nil)) (nomark _))) pa_nil))))))))))))))), ?_⟩
  walk_at "rd"
  refine ⟨.ref a, rfl, a, 5, rfl, hw, by decide, by decide, fun v1 r H1 k1 w1 r1 okr lr b6 => ⟨.ref a, rfl, a, rfl, w1, fun vp n m H2 k2 w2 pp2 sp => ⟨_, _, rfl, ?_⟩⟩⟩
  have lr5 : r.length ≤ 5 := by omega
  have k02 := k1.trans k2
  have r2 := r1.kt (kt_kp w1 k2)
  clear r1 k1 k2 w1
  refine ⟨fun σ H' => ∃ v2 s, σ = [some (.ref a), some v1, some vp, some v2, none, none, none, none] ∧ Kp a H H' ∧ We a H' ∧ Ro H' v1 r ∧ Pr H' vp n m ∧ Ro H' v2 s ∧ okR s ∧ s.length ≤ 5 ∧ B6 s, ?_, ?_⟩
  · refine ⟨.ref a, rfl, a, 3, rfl, w2, by decide, by decide, fun d H3 d0 d1 k3 w3 => ⟨rfl, _, rfl, ite2 (fun c => ?_) (fun c => ?_)⟩⟩
    · have r3 := r2.kt (kt_kp w2 k3)
      refine ⟨.ref a, rfl, v1, rfl, a, v1, r, rfl, w3, r3, lr5, b6, fun z t H4 k4 w4 rz okt lt bt => ?_⟩
      exact ⟨z, t, rfl, (k02.trans k3).trans k4, w4, r3.kt (kt_kp w3 k4), (pp2.kt (kt_kp w2 k3)).kt (kt_kp w3 k4), rz, okt, lt, bt⟩
    · have r3 := r2.kt (kt_kp w2 k3)
      refine ⟨.ref a, rfl, a, 4, rfl, w3, by decide, by decide, fun z t H4 k4 w4 rz okt lt bt => ?_⟩
      exact ⟨z, t, rfl, (k02.trans k3).trans k4, w4, r3.kt (kt_kp w3 k4), (pp2.kt (kt_kp w2 k3)).kt (kt_kp w3 k4), rz, okt, by omega, bt⟩
  clear r2 pp2 k02 w2
  rintro σ H4 ⟨v2, s, rfl, k4, w4, h1, hp, h2, oks, ls, c6⟩
  have cm : CM r s := fun c hc d hd => .inr (Nat.lt_of_le_of_lt (c6 d hd) (by decide))
  -- due
  refine ⟨v1, rfl, v2, rfl, v1, v2, r, s, rfl, h1, h2, by omega, by omega, fun y1 t1 H5 s5 q1 ok1 g1 => ?_⟩
  refine ⟨v1, rfl, v2, rfl, 0, 1, rfl, rfl, v2, s, 0 - 1, rfl, h2.kt (Kt.of s5), by omega, by decide, fun ym tm H6 s6 qm okm gm => ?_⟩
  have s46 := s5.trans s6
  refine ⟨v1, ym, r, tm, rfl, h1.kt (Kt.of s46), qm, by omega, len_of okm (fun k hk => by rw [gm, g_none (show s.length ≤ k by omega)]; rfl), fun y2 t2 H7 s7 q2 ok2 g2 => ?_⟩
  have s47 := s46.trans s7
  refine ⟨v1, rfl, v2, rfl, v1, v2, r, s, rfl, h1.kt (Kt.of s47), h2.kt (Kt.of s47), by omega, by omega, cm, fun y3 t3 H8 s8 q3 ok3 g3 => ?_⟩
  have s48 := s47.trans s8
  refine ⟨v1, rfl, v1, r, rfl, h1.kt (Kt.of s48), okr, by omega, fun y4 t4 H9 s9 q4 ok4 g4 => ?_⟩
  have s49 := s48.trans s9
  refine ⟨sz (by simp), fun D nD => ?_⟩
  have sD := same_new (o := .lst [y1, y2, y3, y4]) nD
  have eD : upd H9 D (.lst [y1, y2, y3, y4]) D = some (.lst [y1, y2, y3, y4]) := upd_same
  have s4D := s49.trans sD
  have a1 := q1.kt (Kt.of (s6.trans (s7.trans (s8.trans (s9.trans sD)))))
  have a2 := q2.kt (Kt.of (s8.trans (s9.trans sD)))
  have a3 := q3.kt (Kt.of (s9.trans sD))
  have a4 := q4.kt (Kt.of sD)
  generalize upd H9 D (.lst [y1, y2, y3, y4]) = G1 at eD s4D a1 a2 a3 a4 ⊢
  clear q1 q2 q3 q4 qm s5 s6 s7 s8 s9 s46 s47 s48 s49 sD nD
  refine ⟨.ref D, rfl, v1, rfl, vp, rfl, v1, vp, r, n, m, rfl, h1.kt (Kt.of s4D), hp.kt (Kt.of s4D), sp, by omega, fun y5 fx fy H10 s10 p5 l5 => ?_⟩
  have s410 := s4D.trans s10
  refine ⟨v1, rfl, v1, r, rfl, h1.kt (Kt.of s410), okr, by omega, b6, fun y6 H11 s11 q6 => ?_⟩
  have s411 := s410.trans s11
  refine ⟨v1, rfl, v2, rfl, v1, v2, r, s, rfl, h1.kt (Kt.of s411), h2.kt (Kt.of s411), okr, oks, lr5, ls, c6, fun y7 t7 H12 s12 q7 ok7 g7 => ?_⟩
  have s412 := s411.trans s12
  refine ⟨v2, rfl, v1, rfl, v2, v1, s, r, rfl, h2.kt (Kt.of s412), h1.kt (Kt.of s412), oks, okr, ls, lr5, b6, fun y8 t8 H13 s13 q8 ok8 g8 => ?_⟩
  have s413 := s412.trans s13
  refine ⟨sz (by simp), fun L nL => ?_⟩
  have sL := same_new (o := .lst [y5, y6, y7, y8]) nL
  have gL := s10.trans (s11.trans (s12.trans (s13.trans sL)))
  refine ⟨D, L, [y1, y2, y3, y4], [y5, y6, y7, y8], rfl, rfl, gL _ _ eD, upd_same, sz (by simp), fun D2 nD2 => ?_⟩
  have sD2 := same_new (o := .lst ([y1, y2, y3, y4] ++ [y5, y6, y7, y8])) nD2
  have eD2 : upd (upd H13 L (.lst [y5, y6, y7, y8])) D2 (.lst ([y1, y2, y3, y4] ++ [y5, y6, y7, y8])) D2 = some (.lst ([y1, y2, y3, y4] ++ [y5, y6, y7, y8])) := upd_same
  have gD := gL.trans sD2
  have s4E := s4D.trans gD
  have wE := w4.to s4E
  have sLD := sL.trans sD2
  have dD : DaAll a (upd (upd H13 L (.lst [y5, y6, y7, y8])) D2 (.lst ([y1, y2, y3, y4] ++ [y5, y6, y7, y8]))) ([y1, y2, y3, y4] ++ [y5, y6, y7, y8]) [rowD t1, rowD t2, rowD t3, rowD t4, rowD [fx, fy], rowD (primeI r), rowD t7, rowD t8] :=
    .cons (da_row wE (a1.kt (Kt.of gD))) (.cons (da_row wE (a2.kt (Kt.of gD))) (.cons (da_row wE (a3.kt (Kt.of gD))) (.cons (da_row wE (a4.kt (Kt.of gD))) (.cons (da_fr wE (p5.kt (Kt.of (s11.trans (s12.trans (s13.trans sLD)))))) (.cons (da_row wE (q6.kt (Kt.of (s12.trans (s13.trans sLD))))) (.cons (da_row wE (q7.kt (Kt.of (s13.trans sLD)))) (.cons (da_row wE (q8.kt (Kt.of sLD))) .nil)))))))
  have kE := k4.trans (Kp.of s4E)
  have e1 := h1.kt (Kt.of s4E)
  have e2 := h2.kt (Kt.of s4E)
  have ep := hp.kt (Kt.of s4E)
  generalize upd (upd H13 L (.lst [y5, y6, y7, y8])) D2 (.lst ([y1, y2, y3, y4] ++ [y5, y6, y7, y8])) = E0' at eD2 wE dD kE e1 e2 ep ⊢
  clear h1 h2 hp a1 a2 a3 a4 p5 q6 q7 q8 s4E gD sLD sD2 gL sL s413 s412 s411 s410 s4D s10 s11 s12 s13 eD nL nD2 k4 w4
  -- how great they are
  have R1 : Rw t1 := rw_of ok1 (n := 5) (B := 2000000) (fun k hk => by rw [g1, g_none (by omega), g_none (by omega)]; rfl) (fun k => by rw [g1]; have := b6g b6 k; have := b6g c6 k; omega) (by decide) (by decide)
  have R2 : Rw t2 := rw_of ok2 (n := 5) (B := 2000000) (fun k hk => by rw [g2, gm, g_none (by omega), g_none (by omega)]; rfl) (fun k => by rw [g2, gm]; have := b6g b6 k; have := b6g c6 k; omega) (by decide) (by decide)
  have R3 : Rw t3 := rw_of ok3 (n := 9) (B := 5 * (1000000 * 1000000)) (fun k hk => by rw [g3]; exact cv_out' (a := 4) (b := 4) (fun i hi => g_none (by omega)) (fun i hi => g_none (by omega)) (by omega)) (fun k => by rw [g3]; exact cv_le (b6g b6) (b6g c6) (fun i hi => g_none (by omega)) k) (by decide) (by decide)
  have R4 : Rw t4 := rw_of ok4 (n := 5) (B := 5000000) (fun k hk => by rw [g4, g_none (by omega), Int.mul_zero]) (fun k => by
    rw [g4]
    rcases Nat.lt_or_ge (k + 1) 5 with c | c
    · rw [Int.natAbs_mul, Int.natAbs_natCast]
      exact Nat.le_trans (Nat.mul_le_mul (show k + 1 ≤ 5 by omega) (b6g b6 _)) (by decide)
    · rw [g_none (show r.length ≤ k + 1 by omega), Int.mul_zero]; decide) (by decide) (by decide)
  have R6 : Rw (primeI r) := ⟨by rw [len_primeI]; omega, fun c hc => Nat.lt_of_le_of_lt (le_primeI b6 c hc) (by decide)⟩
  have R7 : Rw t7 := rw_of ok7 (n := 21) (B := 10 ^ 60) (fun k hk => by rw [g7]; exact putI_out ls r k (by omega)) (fun k => by rw [g7]; exact Nat.le_trans (putI_le ls c6 r b6 k) (putB_five lr5)) (by decide) (by decide)
  have R8 : Rw t8 := rw_of ok8 (n := 21) (B := 10 ^ 60) (fun k hk => by rw [g8]; exact putI_out lr5 s k (by omega)) (fun k => by rw [g8]; exact Nat.le_trans (putI_le lr5 b6 s c6 k) (putB_five ls)) (by decide) (by decide)
  have m0 := sp.2.1
  have D0 : 0 < m ^ (r.length - 1) := pow_pos' m0 _
  have D1 : m ^ (r.length - 1) ≤ 7 ^ 8 := Int.le_trans (pow_le7 m0 sp.2.2.1 _) (pow_mono7 (by omega))
  have TT : (T n m r).natAbs < 10 ^ 70 := by
    have := T_wide (B := 1000000) sp.1 (show m.natAbs ≤ 7 by have := sp.2.2.1; omega) r b6
    exact Nat.lt_of_le_of_lt (Nat.le_trans this (Nat.mul_le_mul_left _ (Nat.pow_le_pow_right (by decide) lr5))) (by decide)
  have R5 : Shw 15000 (rowD [fx, fy]) := by
    have := lo_le l5 D0
    have := l5.1
    obtain ⟨s1, s2, s3, s4⟩ := shw_fr (x := fx) (y := fy) (Nat.lt_of_le_of_lt (lo_num l5 D0) TT) (by omega)
    exact ⟨s1, s2, s3, Nat.le_trans s4 (by decide)⟩
  have sh : Shl 200000 [rowD t1, rowD t2, rowD t3, rowD t4, rowD [fx, fy], rowD (primeI r), rowD t7, rowD t8] :=
    (Shl.cons (shw_r R1) (Shl.cons (shw_r R2) (Shl.cons (shw_r R3) (Shl.cons (shw_r R4) (Shl.cons R5 (Shl.cons (shw_r R6) (Shl.cons (shw_r R7) (Shl.cons (shw_r R8) Shl.nil)))))))).up (by decide)
  have sh7 : Shl 200000 [rowD t1, rowD t2, rowD t3, rowD t4, rowD [fx, fy], rowD (primeI r), rowD t7] :=
    (Shl.cons (shw_r R1) (Shl.cons (shw_r R2) (Shl.cons (shw_r R3) (Shl.cons (shw_r R4) (Shl.cons R5 (Shl.cons (shw_r R6) (Shl.cons (shw_r R7) Shl.nil))))))).up (by decide)
  refine ⟨v1, rfl, v2, rfl, a, v1, v2, r, s, rfl, wE, e1, e2, okr, oks, lr5, ls, cm, c6, fun px1 pu1 pH1 ps1 pq1 po1 pg1 => ?_⟩
  refine ⟨v1, rfl, v2, rfl, a, v1, v2, r, s, rfl, wE.to ps1, e1.kt (Kt.of ps1), e2.kt (Kt.of ps1), okr, oks, lr5, ls, cm, c6, fun px2 pu2 pH2 ps2 pq2 po2 pg2 => ?_⟩
  have pS2 := ps1.trans ps2
  refine ⟨v1, rfl, v2, rfl, a, v1, v2, r, s, rfl, wE.to pS2, e1.kt (Kt.of pS2), e2.kt (Kt.of pS2), okr, oks, lr5, ls, cm, c6, fun px3 pu3 pH3 ps3 pq3 po3 pg3 => ?_⟩
  have pS3 := pS2.trans ps3
  refine ⟨v1, rfl, a, v1, r, rfl, wE.to pS3, e1.kt (Kt.of pS3), okr, by omega, fun px4 pu4 pH4 ps4 pq4 po4 pg4 => ?_⟩
  have pS4 := pS3.trans ps4
  refine ⟨sz (by simp), fun pL npL => ?_⟩
  have psL := same_new (o := .lst [px1, px2, px3, px4]) npL
  have peL : upd pH4 pL (.lst [px1, px2, px3, px4]) pL = some (.lst [px1, px2, px3, px4]) := upd_same
  have pSL := pS4.trans psL
  have pE1 : pu1 = t1 := row_ext po1 ok1 fun k => by rw [pg1, g1]
  have pE2 : pu2 = t2 := row_ext po2 ok2 fun k => by rw [pg2, g2, gm]; rfl
  have pE3 : pu3 = t3 := row_ext po3 ok3 fun k => by rw [pg3, g3]
  have pE4 : pu4 = t4 := row_ext po4 ok4 fun k => by rw [pg4, g4]
  rw [pE1] at pq1
  rw [pE2] at pq2
  rw [pE3] at pq3
  rw [pE4] at pq4
  have pa1 := pq1.kt (Kt.of (ps2.trans (ps3.trans (ps4.trans psL))))
  have pa2 := pq2.kt (Kt.of (ps3.trans (ps4.trans psL)))
  have pa3 := pq3.kt (Kt.of (ps4.trans psL))
  have pa4 := pq4.kt (Kt.of psL)
  generalize upd pH4 pL (.lst [px1, px2, px3, px4]) = pG at peL pSL pa1 pa2 pa3 pa4 ⊢
  clear ps1 ps2 ps3 ps4 pS2 pS3 pS4 psL npL pq1 pq2 pq3 pq4 pE1 pE2 pE3 pE4 po1 po2 po3 po4 pg1 pg2 pg3 pg4
  refine ⟨.ref pL, rfl, v1, rfl, vp, rfl, a, v1, vp, r, n, m, rfl, wE.to pSL, e1.kt (Kt.of pSL), okr, ep.kt (Kt.of pSL), sp, by omega, fun px5 pfx pfy pH5 ps5 pp5 pl5 => ?_⟩
  have pS5 := pSL.trans ps5
  refine ⟨v1, rfl, a, v1, r, rfl, wE.to pS5, e1.kt (Kt.of pS5), okr, by omega, b6, fun px6 pH6 ps6 pq6 => ?_⟩
  have pS6 := pS5.trans ps6
  refine ⟨v1, rfl, v2, rfl, a, v1, v2, r, s, rfl, wE.to pS6, e1.kt (Kt.of pS6), e2.kt (Kt.of pS6), okr, oks, lr5, ls, cm, c6, fun px7 pu7 pH7 ps7 pq7 po7 pg7 => ?_⟩
  have pS7 := pS6.trans ps7
  refine ⟨v2, rfl, v1, rfl, a, v2, v1, s, r, rfl, wE.to pS7, e2.kt (Kt.of pS7), e1.kt (Kt.of pS7), oks, okr, ls, lr5, cm.symm, b6, fun px8 pu8 pH8 ps8 pq8 po8 pg8 => ?_⟩
  have pS8 := pS7.trans ps8
  obtain ⟨pex, pey⟩ := lo_uniq pl5 l5 D0
  subst pex pey
  have pE7 : pu7 = t7 := row_ext po7 ok7 fun k => by rw [pg7, g7]
  rw [pE7] at pq7
  have pE8 : pu8 = t8 := row_ext po8 ok8 fun k => by rw [pg8, g8]
  rw [pE8] at pq8
  refine ⟨sz (by simp), fun pM npM => ?_⟩
  have psM := same_new (o := .lst [px5, px6, px7, px8]) npM
  have pgM := ps5.trans (ps6.trans (ps7.trans (ps8.trans (psM))))
  refine ⟨pL, pM, [px1, px2, px3, px4], [px5, px6, px7, px8], rfl, rfl, pgM _ _ peL, upd_same, sz (by simp), fun pT npT => ?_⟩
  have psT := same_new (o := .lst ([px1, px2, px3, px4] ++ [px5, px6, px7, px8])) npT
  have peT : upd (upd pH8 pM (.lst [px5, px6, px7, px8])) pT (.lst ([px1, px2, px3, px4] ++ [px5, px6, px7, px8])) pT = some (.lst ([px1, px2, px3, px4] ++ [px5, px6, px7, px8])) := upd_same
  have pgT := pgM.trans psT
  have pST := pSL.trans pgT
  have pw := wE.to pST
  have pMT := psM.trans psT
  have pd : DaAll a (upd (upd pH8 pM (.lst [px5, px6, px7, px8])) pT (.lst ([px1, px2, px3, px4] ++ [px5, px6, px7, px8]))) ([px1, px2, px3, px4] ++ [px5, px6, px7, px8]) [rowD t1, rowD t2, rowD t3, rowD t4, rowD [pfx, pfy], rowD (primeI r), rowD t7, rowD t8] :=
    .cons (da_row pw (pa1.kt (Kt.of pgT))) (.cons (da_row pw (pa2.kt (Kt.of pgT))) (.cons (da_row pw (pa3.kt (Kt.of pgT))) (.cons (da_row pw (pa4.kt (Kt.of pgT))) (.cons (da_fr pw (pp5.kt (Kt.of (ps6.trans (ps7.trans (ps8.trans pMT)))))) (.cons (da_row pw (pq6.kt (Kt.of (ps7.trans (ps8.trans pMT))))) (.cons (da_row pw (pq7.kt (Kt.of (ps8.trans pMT)))) (.cons (da_row pw (pq8.kt (Kt.of pMT))) .nil)))))))
  generalize upd (upd pH8 pM (.lst [px5, px6, px7, px8])) pT (.lst ([px1, px2, px3, px4] ++ [px5, px6, px7, px8])) = pE at peT pST pw pd ⊢
  have dD1 := dD.same pST
  have eD3 := pST _ _ eD2
  have f1 := e1.kt (Kt.of pST)
  have f2 := e2.kt (Kt.of pST)
  have fp := ep.kt (Kt.of pST)
  have kP := kE.trans (Kp.of pST)
  clear pa1 pa2 pa3 pa4 pp5 pq6 pq7 pq8 pMT pgT pgM psM psT ps5 ps6 ps7 ps8 pS5 pS6 pS7 pS8 pSL pST pE7 pE8 npM npT peL
  refine ⟨.ref pT, rfl, show_list peT pd sh (by decide) ⟨.ref D2, rfl, show_list eD3 dD1 sh (by decide) ⟨rfl, _, rfl, ?_⟩⟩⟩
  rw [decide_eq_true rfl]
  refine iteF ?_
  clear pd peT
  refine ⟨v2, rfl, v1, rfl, a, v1, v2, r, s, rfl, pw, f1, f2, okr, oks, lr5, ls, cm, c6, fun kx1 ku1 kH1 ks1 kq1 ko1 kg1 => ?_⟩
  refine ⟨v2, rfl, v1, rfl, a, v1, v2, r, s, rfl, pw.to ks1, f1.kt (Kt.of ks1), f2.kt (Kt.of ks1), okr, oks, lr5, ls, cm, c6, fun kx2 ku2 kH2 ks2 kq2 ko2 kg2 => ?_⟩
  have kS2 := ks1.trans ks2
  refine ⟨v2, rfl, v1, rfl, a, v1, v2, r, s, rfl, pw.to kS2, f1.kt (Kt.of kS2), f2.kt (Kt.of kS2), okr, oks, lr5, ls, cm, c6, fun kx3 ku3 kH3 ks3 kq3 ko3 kg3 => ?_⟩
  have kS3 := kS2.trans ks3
  refine ⟨v1, rfl, a, v1, r, rfl, pw.to kS3, f1.kt (Kt.of kS3), okr, by omega, fun kx4 ku4 kH4 ks4 kq4 ko4 kg4 => ?_⟩
  have kS4 := kS3.trans ks4
  refine ⟨sz (by simp), fun kL nkL => ?_⟩
  have ksL := same_new (o := .lst [kx1, kx2, kx3, kx4]) nkL
  have keL : upd kH4 kL (.lst [kx1, kx2, kx3, kx4]) kL = some (.lst [kx1, kx2, kx3, kx4]) := upd_same
  have kSL := kS4.trans ksL
  have kE1 : ku1 = t1 := row_ext ko1 ok1 fun k => by rw [kg1, g1]
  have kE2 : ku2 = t2 := row_ext ko2 ok2 fun k => by rw [kg2, g2, gm]; rfl
  have kE3 : ku3 = t3 := row_ext ko3 ok3 fun k => by rw [kg3, g3]
  have kE4 : ku4 = t4 := row_ext ko4 ok4 fun k => by rw [kg4, g4]
  rw [kE1] at kq1
  rw [kE2] at kq2
  rw [kE3] at kq3
  rw [kE4] at kq4
  have ka1 := kq1.kt (Kt.of (ks2.trans (ks3.trans (ks4.trans ksL))))
  have ka2 := kq2.kt (Kt.of (ks3.trans (ks4.trans ksL)))
  have ka3 := kq3.kt (Kt.of (ks4.trans ksL))
  have ka4 := kq4.kt (Kt.of ksL)
  generalize upd kH4 kL (.lst [kx1, kx2, kx3, kx4]) = kG at keL kSL ka1 ka2 ka3 ka4 ⊢
  clear ks1 ks2 ks3 ks4 kS2 kS3 kS4 ksL nkL kq1 kq2 kq3 kq4 kE1 kE2 kE3 kE4 ko1 ko2 ko3 ko4 kg1 kg2 kg3 kg4
  refine ⟨.ref kL, rfl, vp, rfl, v1, rfl, a, v1, vp, r, n, m, rfl, pw.to kSL, f1.kt (Kt.of kSL), okr, fp.kt (Kt.of kSL), sp, by omega, fun kx5 kfx kfy kH5 ks5 kp5 kl5 => ?_⟩
  have kS5 := kSL.trans ks5
  refine ⟨v1, rfl, a, v1, r, rfl, pw.to kS5, f1.kt (Kt.of kS5), okr, by omega, b6, fun kx6 kH6 ks6 kq6 => ?_⟩
  have kS6 := kS5.trans ks6
  refine ⟨v2, rfl, v1, rfl, a, v1, v2, r, s, rfl, pw.to kS6, f1.kt (Kt.of kS6), f2.kt (Kt.of kS6), okr, oks, lr5, ls, cm, c6, fun kx7 ku7 kH7 ks7 kq7 ko7 kg7 => ?_⟩
  have kS7 := kS6.trans ks7
  obtain ⟨kex, key⟩ := lo_uniq kl5 l5 D0
  subst kex key
  have kE7 : ku7 = t7 := row_ext ko7 ok7 fun k => by rw [kg7, g7]
  rw [kE7] at kq7
  refine ⟨sz (by simp), fun kM nkM => ?_⟩
  have ksM := same_new (o := .lst [kx5, kx6, kx7]) nkM
  have kgM := ks5.trans (ks6.trans (ks7.trans (ksM)))
  refine ⟨kL, kM, [kx1, kx2, kx3, kx4], [kx5, kx6, kx7], rfl, rfl, kgM _ _ keL, upd_same, sz (by simp), fun kT nkT => ?_⟩
  have ksT := same_new (o := .lst ([kx1, kx2, kx3, kx4] ++ [kx5, kx6, kx7])) nkT
  have keT : upd (upd kH7 kM (.lst [kx5, kx6, kx7])) kT (.lst ([kx1, kx2, kx3, kx4] ++ [kx5, kx6, kx7])) kT = some (.lst ([kx1, kx2, kx3, kx4] ++ [kx5, kx6, kx7])) := upd_same
  have kgT := kgM.trans ksT
  have kST := kSL.trans kgT
  have kw := pw.to kST
  have kMT := ksM.trans ksT
  have kd : DaAll a (upd (upd kH7 kM (.lst [kx5, kx6, kx7])) kT (.lst ([kx1, kx2, kx3, kx4] ++ [kx5, kx6, kx7]))) ([kx1, kx2, kx3, kx4] ++ [kx5, kx6, kx7]) [rowD t1, rowD t2, rowD t3, rowD t4, rowD [kfx, kfy], rowD (primeI r), rowD t7] :=
    .cons (da_row kw (ka1.kt (Kt.of kgT))) (.cons (da_row kw (ka2.kt (Kt.of kgT))) (.cons (da_row kw (ka3.kt (Kt.of kgT))) (.cons (da_row kw (ka4.kt (Kt.of kgT))) (.cons (da_fr kw (kp5.kt (Kt.of (ks6.trans (ks7.trans (kMT)))))) (.cons (da_row kw (kq6.kt (Kt.of (ks7.trans (kMT))))) (.cons (da_row kw (kq7.kt (Kt.of (kMT)))) .nil))))))
  generalize upd (upd kH7 kM (.lst [kx5, kx6, kx7])) kT (.lst ([kx1, kx2, kx3, kx4] ++ [kx5, kx6, kx7])) = kE at keT kST kw kd ⊢
  have dD2 := dD1.same kST
  have eD4 := kST _ _ eD3
  refine ⟨.ref kT, rfl, show_list keT kd sh7 (by decide) ⟨.ref D2, rfl, 7, rfl, D2, _, rfl, SqL.of eD4, fun C nC => ?_⟩⟩
  have sC := same_new (o := .lst (L2.cutV ([y1, y2, y3, y4] ++ [y5, y6, y7, y8]) none (some 7))) nC
  have dC : DaAll a (upd kE C (.lst (L2.cutV ([y1, y2, y3, y4] ++ [y5, y6, y7, y8]) none (some 7)))) (L2.cutV ([y1, y2, y3, y4] ++ [y5, y6, y7, y8]) none (some 7)) [rowD t1, rowD t2, rowD t3, rowD t4, rowD [kfx, kfy], rowD (primeI r), rowD t7] := (dD2.same sC).cut none (some 7)
  refine show_list upd_same dC sh7 (by decide) ⟨rfl, _, rfl, ?_⟩
  rw [decide_eq_true rfl]
  refine iteF ?_
  have kC := kP.trans (Kp.of (kST.trans sC))
  have s2C := kST.trans sC
  have i1 := f1.kt (Kt.of s2C)
  have i2 := f2.kt (Kt.of s2C)
  have ip := fp.kt (Kt.of s2C)
  have wC := kw.to sC
  generalize upd kE C (.lst (L2.cutV ([y1, y2, y3, y4] ++ [y5, y6, y7, y8]) none (some 7))) = Z0 at kC i1 i2 ip wC ⊢
  clear dD2 eD4 dC sC s2C kST kd keT f1 f2 fp dD1 eD3
  -- is it a row
  obtain ⟨pu, rfl, eu⟩ := i1
  obtain ⟨pv2, rfl, ev⟩ := i2
  have dr := da_row wC (⟨pu, rfl, eu⟩ : Ro Z0 (.ref pu) r)
  have ds := da_row wC (⟨pv2, rfl, ev⟩ : Ro Z0 (.ref pv2) s)
  have dp := da_fr wC ip
  have smr : Sm 1 10 (rowD r) := sm_row (by omega)
  have sms : Sm 1 10 (rowD s) := sm_row (by omega)
  refine ⟨.ref pu, rfl, vp, rfl, .ref pv2, rfl, pv2, s.map V.int, rfl, .inr (SqT.of ev), fun L1 n1 => ?_⟩
  obtain ⟨z1, dl⟩ := newL wC.some (da_ints a Z0 s) n1
  generalize upd Z0 L1 (.lst (s.map V.int)) = Z1 at z1 dl ⊢
  have wz1 := wC.to z1
  refine ⟨.ref pu, rfl, sz (by simp), fun p0 n0 => ?_⟩
  obtain ⟨z2, d0⟩ := newT wz1.some (.cons (.int 0) .nil) n0
  generalize upd Z1 p0 (.tup [.int 0]) = Z2 at z2 d0 ⊢
  have wz2 := wz1.to z2
  have z02 := z1.trans z2
  have lrd : (r.map PyData.int).length = r.length := List.length_map _
  refine cat_da wz2.some (dr.same z02) d0 (by rw [lrd]; simp; omega) fun vc Z3 z3 dc => ?_
  have wz3 := wz2.to z3
  have z03 := z02.trans z3
  refine ⟨.ref a, rfl, .ref pu, rfl, a, .ref pu, rowD r, 1, 10, rfl, wz3, dr.same z03, smr, by decide, by decide, by decide, fun vb1 db1 Z4 k4' wz4 eb1 tb1 => ?_⟩
  refine ⟨.ref a, rfl, .ref pv2, rfl, a, .ref pv2, rowD s, 1, 10, rfl, wz4, (ds.same z03).kp k4', sms, by decide, by decide, by decide, fun vb2 db2 Z5 k5' wz5 eb2 tb2 => ?_⟩
  refine ⟨.ref a, rfl, a, rfl, wz5, fun vo do_ Z6 k6' wz6 eo to_ => ?_⟩
  have k46 := (k4'.trans k5').trans k6'
  have kz := (Kp.of z03).trans k46
  have all := DaAll.cons (dr.kp kz) (.cons (dp.kp kz) (.cons (dl.kp ((Kp.of (z2.trans z3)).trans k46)) (.cons (dc.kp k46) (.cons (eb1.kp (k5'.trans k6')) (.cons (eb2.kp k6') (.cons eo .nil))))))
  have tall : ∀ d ∈ [rowD r, rowD [n, m], PyData.list (s.map PyData.int), PyData.tuple (r.map PyData.int ++ [PyData.int 0]), db1, db2, do_], Sm 20 1000 d := fun d hd => by
    simp only [List.mem_cons, List.not_mem_nil, or_false] at hd
    rcases hd with rfl | rfl | rfl | rfl | rfl | rfl | rfl
    · exact smr.up (by decide) (by decide)
    · exact (sm_row (n := 10) (by simp)).up (by decide) (by decide)
    · exact (sm_lst (n := 0) (m := 10) (by rw [List.length_map]; omega) fun e he => by
        obtain ⟨i, _, rfl⟩ := List.mem_map.mp he
        exact sm_int _ _ i).up (by decide) (by decide)
    · exact (sm_tup (n := 0) (m := 10) (by rw [List.length_append, lrd]; simp; omega) fun e he => by
        rcases List.mem_append.mp he with h | h
        · obtain ⟨i, _, rfl⟩ := List.mem_map.mp h
          exact sm_int _ _ i
        · rw [List.mem_singleton.mp h]; exact sm_int _ _ 0).up (by decide) (by decide)
    · exact tb1.up (by decide) (by decide)
    · exact tb2.up (by decide) (by decide)
    · exact to_.up (by decide) (by decide)
  generalize hall : [rowD r, rowD [n, m], PyData.list (s.map PyData.int), PyData.tuple (r.map PyData.int ++ [PyData.int 0]), db1, db2, do_] = dsA at all tall
  refine ⟨sz (by simp), fun p11 n11 => ?_⟩
  have s11 := same_new (o := .lst [.ref pu, vp, .ref L1, vc, vb1, vb2, vo]) n11
  have h11 : upd Z6 p11 (.lst [.ref pu, vp, .ref L1, vc, vb1, vb2, vo]) p11 = some (.lst [.ref pu, vp, .ref L1, vc, vb1, vb2, vo]) := upd_same
  generalize upd Z6 p11 _ = Z7 at s11 h11 ⊢
  have all := all.same s11
  refine lc_mapL (fun _ => V.bl true) rfl h11 all (by simp) (wipe1 _ 7) (fun x d H1 hm s1 dx R k => ?_) fun L1 H12 s12 nL1 hL1 => ?_
  · refine ⟨x, rfl, a, x, d, _, rfl, dx, tall d hm, fun H2 s2 => ⟨_, rfl, x, rfl, a, x, d, _, rfl, dx.same s2, tall d hm, fun H3 s3 => ⟨_, rfl, rfl, ?_⟩⟩⟩
    rw [decide_eq_true rfl]
    exact k H3 (s2.trans s3)
  · refine ⟨L1, dsA.map (fun _ => true), rfl, SqL.of (by rw [List.map_map]; exact hL1), ?_⟩
    have e : (dsA.map (fun _ => true)).all id = true := by
      rw [List.all_eq_true]
      intro b hb
      obtain ⟨_, _, rfl⟩ := List.mem_map.mp hb
      rfl
    rw [e]
    exact q H12 (kC.trans (kz.trans (Kp.of (s11.trans s12))))
end
end K02

set_option Elab.async false
set_option linter.all false
set_option maxRecDepth 100000
set_option maxHeartbeats 4000000
local macro_rules | `(tactic| walk_at "rd") => `(tactic| dsimp only [Evl.tCut, L2.tSeq, L2.tNext, L2.tRet, L2.tRetN, L2.tAsg, L2.gName, L2.tIfS, L2.tDrop, L2.tCons, L2.tNil, L2.tC, L2.tVar, L2.tCB, L2.tAndV, L2.tOrV, L2.tNotV, L2.tB, L2.tTest, L2.tOp, L2.tUn, L2.tNot, L2.tAnd, L2.tOr, L2.tIf, L2.tCall, L2.tTup, L2.tLst, L2.tNotT, L2.tYes, L2.gTup, L2.gCons, L2.gNil, L2.gSub, L2.tBM0, L2.tBM, L2.tWhile, L2.tFor, L2.iRng1, L2.iRng2, L2.tAugS, Tw.iEnumT, L2.tCKw, L2.tAug, L2.ipI, RT.iRevA, L2.tPar, L2.tPar3, L2.tSl, L2.tNoPart, L2.tPart, Tw.tRevT])
namespace K02
open PySem PySem.Spec PyProof.Rows L2 Tw
section
variable {P : Program} {w : World} {K : PySem.W.Frag} {mg : Str → Option Value} {base : Heap}
theorem scLaw : FnScope ["_law_script", "_law_at"] ["_law_script"] (defScope sLaw) := ⟨rfl, rfl, rfl, by decide +kernel, rfl, by decide +kernel, by decide +kernel⟩
theorem ok_law (D : Def K mg "law" sLaw ["_law_script"]) (nb : Nb mg) (c1 : Cal P w K mg base "_law_well" 1 ["_law_script", "_law_at"] (spWell K)) (c2 : CalG P w K mg base "_law_right" 14 ["_law_well_here"] spRight) :
    CalG P w K mg base "law" 15 ["_law_script"] (spLaw K) := by
  refine D.okG scLaw (fun vs H Q E h => ?_) (fun f cdv A out s H vs Q E hq hr h => ?_)
  · obtain ⟨p, ns, rfl, _⟩ := h; rfl
  obtain ⟨p, ns, rfl, hp, hl, q⟩ := h
  refine ⟨_, pss_one (ps_ret (pe_callB (id := "all") (r := rAll K) (cr_all rfl) (by rfl) nb.all (by decide +kernel) (pa_cons
    (pe_lc (own := [("_law_at", 1)]) (g := gName 1) (tt := tYes) rfl scLaw.nd (pi_range1 (by rfl) nb.rng (pa_cons (pe_callB (id := "max") (call_max2 rfl) (by rfl) nb.max (by decide +kernel) (pa_cons pe_int (pa_cons
        (pe_callB (id := "min") (call_min2 rfl) (by rfl) nb.min (by decide +kernel) (pa_cons (pe_callB (id := "len") call_len_seq (by rfl) nb.len PySem.boot_len (pa_cons (pv 0) pa_nil)) (pa_cons pe_int pa_nil))) pa_nil))) pa_nil))
      (blkOk_by (N := ["_law_script", "_law_at"]) (sc := defScope sLaw) (by decide +kernel)) (fun _ _ _ _ _ => pg_name (i := 1) scLaw.nd rfl (Or.inl rfl)) (fun _ _ _ _ _ => pts_nil)
      (fun _ _ _ _ _ => pe_calG c2 hq hr (by decide) (by rfl) (pa_cons (pe_cal c1 hr (by decide) (by rfl) (pa_cons (pv 0) (pa_cons (pv 1) pa_nil))) pa_nil))) pa_nil))), ?_⟩
  walk_at "rd"
  generalize hm : (if (4 : Int) < ((ns.map V.int).length : Int) then (4 : Int) else ((ns.map V.int).length : Int)) = m
  generalize hk : (if m > 2 then m else 2) = k
  have k0 : 2 ≤ k := by rw [← hk]; split <;> omega
  have k1 : k ≤ 4 := by
    have : m ≤ 4 := by rw [← hm]; split <;> omega
    rw [← hk]; split <;> omega
  refine lc_rng (n := k.toNat) (fun _ => V.bl true) (fun R hR => ?_) (by omega) (wipe1 _ 1) (fun i H1 hi s1 R kR => ?_) fun L H1 s1 nL hL => ?_
  · refine ⟨.ref p, rfl, p, _, rfl, .inl hp, _, _, rfl, _, _, rfl, k, ?_, by omega, by omega, hR⟩
    rw [hm, hk]
  · refine ⟨.ref p, rfl, .int (0 + (i : Int)), rfl, p, ns, _, rfl, s1.seq hp, hl, by omega, fun a H2 s2 na w2 => ⟨a, rfl, w2, fun H3 k3 => kR H3 (same_kp s2 na k3)⟩⟩
  · refine ⟨L, (List.range k.toNat).map (fun _ => true), rfl, SqL.of (by rw [List.map_map]; exact hL), ?_⟩
    have e : ((List.range k.toNat).map (fun _ => true)).all id = true := by
      rw [List.all_eq_true]
      intro b hb
      obtain ⟨_, _, rfl⟩ := List.mem_map.mp hb
      rfl
    rw [e]
    exact q H1
end
end K02

set_option Elab.async false
set_option linter.all false
set_option maxRecDepth 100000
namespace K02
open PySem PySem.Spec PyProof.Rows L2 Tw
theorem with_name {R : Prop} {K : PySem.W.Frag} {mg : Str → Option Value} {x : Str} {v : Value} {h : Heap} (X : K.In h) (G : h.Ns mainGlobals mg) (a : PySem.W.nsIn K mainGlobals x = some (some v)) (go : mg x = some v → R) : R := go (PySem.W.mg_of X G a)
/-- all defs and names, put together -/
theorem whole {P : Program} {w : World} {K : PySem.W.Frag} {mg : Str → Option Value} {base : Heap} (nb : Nb mg) (ne : mg "enumerate" = none)
    (ns : ∃ t, mg "SHORT" = some (.int 6 t))
    (d0 : Def K mg "is_whole" sWhole ["value"])
    (d1 : Def K mg "is_fraction" sIsFr ["value"])
    (d2 : Def K mg "fraction_of" sFracOf ["n", "m"])
    (d3 : Def K mg "power" sPower ["base", "many"])
    (d4 : Def K mg "shared_by" sShared ["numbers"])
    (d5 : Def K mg "trimmed" sTrimmed ["numbers"])
    (d6 : Def K mg "row_sum" sPRSum ["row", "other"])
    (d7 : Def K mg "row_scaled" sPRScaled ["row", "whole"])
    (d8 : Def K mg "row_divided" sDivided ["row", "whole"])
    (d9 : Def K mg "row_less" sPLess ["row", "other"])
    (d10 : Def K mg "row_times" sPRTimes ["row", "other"])
    (d11 : Def K mg "row_derivative" sPDeriv ["row"])
    (d12 : Def K mg "row_prime" sPPrime ["row"])
    (d13 : Def K mg "scaled_value" sScaled ["row", "n", "m"])
    (d14 : Def K mg "row_value" sRValue ["row", "fraction"])
    (d15 : Def K mg "row_put_in" sPPut ["row", "other"])
    (d16 : Def K mg "is_row" sRow ["value"])
    (d17 : Def K mg "check_row" sChkR ["row"])
    (d18 : Def K mg "check_both" sChkBoth ["row", "other"])
    (d19 : Def K mg "plus" sApPlus ["row", "other"])
    (d20 : Def K mg "less" sApLess ["row", "other"])
    (d21 : Def K mg "times" sApTimes ["row", "other"])
    (d22 : Def K mg "derivative" sApDer ["row"])
    (d23 : Def K mg "value_at" sApVal ["row", "fraction"])
    (d24 : Def K mg "prime_part" sApPrime ["row"])
    (d25 : Def K mg "put_in" sApPut ["row", "other"])
    (d26 : Def K mg "_law_well" sWell ["_law_script", "_law_at"])
    (d27 : Def K mg "_law_draw" sDraw ["_law_well_here", "_law_few"])
    (d28 : Def K mg "_law_pick" sPick ["_law_well_here", "_law_some"])
    (d29 : Def K mg "_law_common" sCommon ["_law_one", "_law_two"])
    (d30 : Def K mg "_law_lean" sLean ["_law_top", "_law_base"])
    (d31 : Def K mg "_law_small" sSmall ["_law_well_here"])
    (d32 : Def K mg "_law_part" sPart ["_law_well_here"])
    (d33 : Def K mg "_law_trim" sTrim ["_law_some"])
    (d34 : Def K mg "_law_line" sLine ["_law_well_here", "_law_few"])
    (d35 : Def K mg "_law_sum" sSum ["_law_one", "_law_two"])
    (d36 : Def K mg "_law_scaled" sLScaled ["_law_line_here", "_law_by"])
    (d37 : Def K mg "_law_product" sProd ["_law_one", "_law_two"])
    (d38 : Def K mg "_law_slope" sSlope ["_law_line_here"])
    (d39 : Def K mg "_law_value" sValue ["_law_line_here", "_law_part_here"])
    (d40 : Def K mg "_law_worth" sWorth ["_law_line_here", "_law_part_here"])
    (d41 : Def K mg "_law_thin" sThin ["_law_line_here"])
    (d42 : Def K mg "_law_prime" sPrime ["_law_line_here"])
    (d43 : Def K mg "_law_is_whole" sLWhole ["_law_thing"])
    (d44 : Def K mg "_law_is_row" sLRow ["_law_thing"])
    (d45 : Def K mg "_law_odd" sOdd ["_law_well_here"])
    (d46 : Def K mg "_law_bent" sBent ["_law_well_here", "_law_thing"])
    (d47 : Def K mg "_law_turned" sTurned ["_law_well_here", "_law_one"])
    (d48 : Def K mg "_law_put_in" sPutIn ["_law_one", "_law_two"])
    (d49 : Def K mg "_law_right" sRight ["_law_well_here"])
    (d50 : Def K mg "law" sLaw ["_law_script"])
    : CalG P w K mg base "law" 15 ["_law_script"] (spLaw K) := by
  have c_whole := ok_whole (P := P) (w := w) (base := base) d0 nb
  have c_isfr := ok_isfr d1 nb c_whole
  have c_fracof := ok_fracof (P := P) (w := w) (base := base) d2 nb
  have c_power := ok_power (P := P) (w := w) (base := base) d3
  have c_shared := ok_shared (P := P) (w := w) (base := base) d4 nb
  have c_trimmed := ok_trimmed (P := P) (w := w) (base := base) d5 nb
  have c_prsum := ok_prsum d6 nb ne c_trimmed
  have c_prscaled := ok_prscaled (P := P) (w := w) (base := base) d7 nb
  have c_divided := ok_divided (P := P) (w := w) (base := base) d8 nb
  have c_pless := ok_pless d9 c_prsum c_prscaled
  have c_prtimes := ok_prtimes (P := P) (w := w) (base := base) d10 nb ne ns
  have c_pderiv := ok_pderiv (P := P) (w := w) (base := base) d11 nb ne
  have c_pprime := ok_pprime d12 c_shared c_divided
  have c_scaled := ok_scaled (P := P) (w := w) (base := base) d13 nb
  have c_rval := ok_rval d14 nb c_fracof c_scaled c_power
  have c_pput := ok_pput d15 nb c_prsum c_prtimes
  have c_row := ok_row d16 nb c_whole
  have c_chkr := ok_chkr d17 c_row
  have c_chkboth := ok_chkboth d18 c_chkr
  have c_applus := ok_applus d19 c_chkboth c_prsum
  have c_apless := ok_apless d20 c_chkboth c_pless
  have c_aptimes := ok_aptimes d21 c_chkboth c_prtimes
  have c_apder := ok_apder d22 c_chkr c_pderiv
  have c_apval := ok_apval d23 c_chkr c_isfr c_rval
  have c_approme := ok_approme d24 c_chkr c_pprime
  have c_apput := ok_apput d25 c_chkboth c_pput
  have c_well := ok_well (P := P) (w := w) (base := base) d26 nb
  have c_draw := ok_draw (P := P) (w := w) (base := base) d27 nb
  have c_pick := ok_pick d28 nb c_draw
  have c_common := ok_common (P := P) (w := w) (base := base) d29 nb
  have c_lean := ok_lean d30 c_common
  have c_small := ok_small d31 c_draw
  have c_part := ok_part d32 c_small c_lean c_pick
  have c_trim := ok_trim (P := P) (w := w) (base := base) d33 nb
  have c_line := ok_line d34 nb c_draw c_small c_trim
  have c_sum := ok_sum d35 nb c_trim
  have c_lscaled := ok_lscaled d36 c_trim
  have c_prod := ok_prod d37 nb ne c_trim
  have c_slope := ok_slope (P := P) (w := w) (base := base) d38 nb ne
  have c_value := ok_value (P := P) (w := w) (base := base) d39
  have c_worth := ok_worth d40 c_value c_lean
  have c_thin := ok_thin d41 nb c_common
  have c_prime := ok_prime d42 nb c_thin
  have c_lwhole := ok_lwhole (P := P) (w := w) (base := base) d43 nb
  have c_isrow := ok_isRow d44 nb c_lwhole
  have c_odd := ok_odd d45 c_pick
  have c_bent := bent_all d46 nb c_draw c_odd 10
  have c_turned := ok_turned d47 nb c_draw c_small c_trim
  have c_putin := ok_putin d48 c_sum c_prod c_trim
  have c_right := ok_right d49 nb d19 d20 d21 d22 d23 d24 d25 c_line c_part c_draw c_turned c_sum c_lscaled c_prod c_slope c_worth c_prime c_putin c_applus c_apless c_aptimes c_apder c_apval c_approme c_apput c_bent c_odd c_row c_isrow
  exact ok_law d50 nb c_well c_right
end K02
open PySem PySem.W PyProof.Rows
set_option maxHeartbeats 0 in
theorem PySem.Challenge.cw_twoletters_k02_rows_of_anything_and_thei_holds : PySem.Challenge.rw_twoletters_k02_rows_of_anything_and_thei.Holds := by
  w_on; o_law; k_head; (case hw => w_witness2)
  k_fill
  refine Tw.walk_quiet (l := PySem.Challenge.rw_twoletters_k02_rows_of_anything_and_thei) (n := 63) (k := 15) (x := "_law_script") (sp := K02.spLaw) rfl (by decide) rfl ⟨rfl, by decide, by decide⟩ (fun w h Y => PySem.W.kIn_of Y) ?F
    (fun K H a ns hl _ hS => ⟨a, ns, rfl, hS, hl, fun _ => rfl⟩)
  case F =>
    intro w mg fa h KX G hmg
    refine' Tw.with_def (x := "is_whole") (st := K02.sWhole) (ps := ["value"]) KX G ?a ?l ?c ?k (fun _ _ _ _ _ _ us hl => match us, hl with | [_], _ => rfl) (fun d0 => ?_)
    (case a => k_is); (case l => k_is); (case c => k_is); (case k => k_is)
    refine' Tw.with_def (x := "is_fraction") (st := K02.sIsFr) (ps := ["value"]) KX G ?a ?l ?c ?k (fun _ _ _ _ _ _ us hl => match us, hl with | [_], _ => rfl) (fun d1 => ?_)
    (case a => k_is); (case l => k_is); (case c => k_is); (case k => k_is)
    refine' Tw.with_def (x := "fraction_of") (st := K02.sFracOf) (ps := ["n", "m"]) KX G ?a ?l ?c ?k (fun _ _ _ _ _ _ us hl => match us, hl with | [_, _], _ => rfl) (fun d2 => ?_)
    (case a => k_is); (case l => k_is); (case c => k_is); (case k => k_is)
    refine' Tw.with_def (x := "power") (st := K02.sPower) (ps := ["base", "many"]) KX G ?a ?l ?c ?k (fun _ _ _ _ _ _ us hl => match us, hl with | [_, _], _ => rfl) (fun d3 => ?_)
    (case a => k_is); (case l => k_is); (case c => k_is); (case k => k_is)
    refine' Tw.with_def (x := "shared_by") (st := K02.sShared) (ps := ["numbers"]) KX G ?a ?l ?c ?k (fun _ _ _ _ _ _ us hl => match us, hl with | [_], _ => rfl) (fun d4 => ?_)
    (case a => k_is); (case l => k_is); (case c => k_is); (case k => k_is)
    refine' Tw.with_def (x := "trimmed") (st := K02.sTrimmed) (ps := ["numbers"]) KX G ?a ?l ?c ?k (fun _ _ _ _ _ _ us hl => match us, hl with | [_], _ => rfl) (fun d5 => ?_)
    (case a => k_is); (case l => k_is); (case c => k_is); (case k => k_is)
    refine' Tw.with_def (x := "row_sum") (st := K02.sPRSum) (ps := ["row", "other"]) KX G ?a ?l ?c ?k (fun _ _ _ _ _ _ us hl => match us, hl with | [_, _], _ => rfl) (fun d6 => ?_)
    (case a => k_is); (case l => k_is); (case c => k_is); (case k => k_is)
    refine' Tw.with_def (x := "row_scaled") (st := K02.sPRScaled) (ps := ["row", "whole"]) KX G ?a ?l ?c ?k (fun _ _ _ _ _ _ us hl => match us, hl with | [_, _], _ => rfl) (fun d7 => ?_)
    (case a => k_is); (case l => k_is); (case c => k_is); (case k => k_is)
    refine' Tw.with_def (x := "row_divided") (st := K02.sDivided) (ps := ["row", "whole"]) KX G ?a ?l ?c ?k (fun _ _ _ _ _ _ us hl => match us, hl with | [_, _], _ => rfl) (fun d8 => ?_)
    (case a => k_is); (case l => k_is); (case c => k_is); (case k => k_is)
    refine' Tw.with_def (x := "row_less") (st := K02.sPLess) (ps := ["row", "other"]) KX G ?a ?l ?c ?k (fun _ _ _ _ _ _ us hl => match us, hl with | [_, _], _ => rfl) (fun d9 => ?_)
    (case a => k_is); (case l => k_is); (case c => k_is); (case k => k_is)
    refine' Tw.with_def (x := "row_times") (st := K02.sPRTimes) (ps := ["row", "other"]) KX G ?a ?l ?c ?k (fun _ _ _ _ _ _ us hl => match us, hl with | [_, _], _ => rfl) (fun d10 => ?_)
    (case a => k_is); (case l => k_is); (case c => k_is); (case k => k_is)
    refine' Tw.with_def (x := "row_derivative") (st := K02.sPDeriv) (ps := ["row"]) KX G ?a ?l ?c ?k (fun _ _ _ _ _ _ us hl => match us, hl with | [_], _ => rfl) (fun d11 => ?_)
    (case a => k_is); (case l => k_is); (case c => k_is); (case k => k_is)
    refine' Tw.with_def (x := "row_prime") (st := K02.sPPrime) (ps := ["row"]) KX G ?a ?l ?c ?k (fun _ _ _ _ _ _ us hl => match us, hl with | [_], _ => rfl) (fun d12 => ?_)
    (case a => k_is); (case l => k_is); (case c => k_is); (case k => k_is)
    refine' Tw.with_def (x := "scaled_value") (st := K02.sScaled) (ps := ["row", "n", "m"]) KX G ?a ?l ?c ?k (fun _ _ _ _ _ _ us hl => match us, hl with | [_, _, _], _ => rfl) (fun d13 => ?_)
    (case a => k_is); (case l => k_is); (case c => k_is); (case k => k_is)
    refine' Tw.with_def (x := "row_value") (st := K02.sRValue) (ps := ["row", "fraction"]) KX G ?a ?l ?c ?k (fun _ _ _ _ _ _ us hl => match us, hl with | [_, _], _ => rfl) (fun d14 => ?_)
    (case a => k_is); (case l => k_is); (case c => k_is); (case k => k_is)
    refine' Tw.with_def (x := "row_put_in") (st := K02.sPPut) (ps := ["row", "other"]) KX G ?a ?l ?c ?k (fun _ _ _ _ _ _ us hl => match us, hl with | [_, _], _ => rfl) (fun d15 => ?_)
    (case a => k_is); (case l => k_is); (case c => k_is); (case k => k_is)
    refine' Tw.with_def (x := "is_row") (st := K02.sRow) (ps := ["value"]) KX G ?a ?l ?c ?k (fun _ _ _ _ _ _ us hl => match us, hl with | [_], _ => rfl) (fun d16 => ?_)
    (case a => k_is); (case l => k_is); (case c => k_is); (case k => k_is)
    refine' Tw.with_def (x := "check_row") (st := K02.sChkR) (ps := ["row"]) KX G ?a ?l ?c ?k (fun _ _ _ _ _ _ us hl => match us, hl with | [_], _ => rfl) (fun d17 => ?_)
    (case a => k_is); (case l => k_is); (case c => k_is); (case k => k_is)
    refine' Tw.with_def (x := "check_both") (st := K02.sChkBoth) (ps := ["row", "other"]) KX G ?a ?l ?c ?k (fun _ _ _ _ _ _ us hl => match us, hl with | [_, _], _ => rfl) (fun d18 => ?_)
    (case a => k_is); (case l => k_is); (case c => k_is); (case k => k_is)
    refine' Tw.with_def (x := "plus") (st := K02.sApPlus) (ps := ["row", "other"]) KX G ?a ?l ?c ?k (fun _ _ _ _ _ _ us hl => match us, hl with | [_, _], _ => rfl) (fun d19 => ?_)
    (case a => k_is); (case l => k_is); (case c => k_is); (case k => k_is)
    refine' Tw.with_def (x := "less") (st := K02.sApLess) (ps := ["row", "other"]) KX G ?a ?l ?c ?k (fun _ _ _ _ _ _ us hl => match us, hl with | [_, _], _ => rfl) (fun d20 => ?_)
    (case a => k_is); (case l => k_is); (case c => k_is); (case k => k_is)
    refine' Tw.with_def (x := "times") (st := K02.sApTimes) (ps := ["row", "other"]) KX G ?a ?l ?c ?k (fun _ _ _ _ _ _ us hl => match us, hl with | [_, _], _ => rfl) (fun d21 => ?_)
    (case a => k_is); (case l => k_is); (case c => k_is); (case k => k_is)
    refine' Tw.with_def (x := "derivative") (st := K02.sApDer) (ps := ["row"]) KX G ?a ?l ?c ?k (fun _ _ _ _ _ _ us hl => match us, hl with | [_], _ => rfl) (fun d22 => ?_)
    (case a => k_is); (case l => k_is); (case c => k_is); (case k => k_is)
    refine' Tw.with_def (x := "value_at") (st := K02.sApVal) (ps := ["row", "fraction"]) KX G ?a ?l ?c ?k (fun _ _ _ _ _ _ us hl => match us, hl with | [_, _], _ => rfl) (fun d23 => ?_)
    (case a => k_is); (case l => k_is); (case c => k_is); (case k => k_is)
    refine' Tw.with_def (x := "prime_part") (st := K02.sApPrime) (ps := ["row"]) KX G ?a ?l ?c ?k (fun _ _ _ _ _ _ us hl => match us, hl with | [_], _ => rfl) (fun d24 => ?_)
    (case a => k_is); (case l => k_is); (case c => k_is); (case k => k_is)
    refine' Tw.with_def (x := "put_in") (st := K02.sApPut) (ps := ["row", "other"]) KX G ?a ?l ?c ?k (fun _ _ _ _ _ _ us hl => match us, hl with | [_, _], _ => rfl) (fun d25 => ?_)
    (case a => k_is); (case l => k_is); (case c => k_is); (case k => k_is)
    refine' Tw.with_def (x := "_law_well") (st := K02.sWell) (ps := ["_law_script", "_law_at"]) KX G ?a ?l ?c ?k (fun _ _ _ _ _ _ us hl => match us, hl with | [_, _], _ => rfl) (fun d26 => ?_)
    (case a => k_is); (case l => k_is); (case c => k_is); (case k => k_is)
    refine' Tw.with_def (x := "_law_draw") (st := K02.sDraw) (ps := ["_law_well_here", "_law_few"]) KX G ?a ?l ?c ?k (fun _ _ _ _ _ _ us hl => match us, hl with | [_, _], _ => rfl) (fun d27 => ?_)
    (case a => k_is); (case l => k_is); (case c => k_is); (case k => k_is)
    refine' Tw.with_def (x := "_law_pick") (st := K02.sPick) (ps := ["_law_well_here", "_law_some"]) KX G ?a ?l ?c ?k (fun _ _ _ _ _ _ us hl => match us, hl with | [_, _], _ => rfl) (fun d28 => ?_)
    (case a => k_is); (case l => k_is); (case c => k_is); (case k => k_is)
    refine' Tw.with_def (x := "_law_common") (st := K02.sCommon) (ps := ["_law_one", "_law_two"]) KX G ?a ?l ?c ?k (fun _ _ _ _ _ _ us hl => match us, hl with | [_, _], _ => rfl) (fun d29 => ?_)
    (case a => k_is); (case l => k_is); (case c => k_is); (case k => k_is)
    refine' Tw.with_def (x := "_law_lean") (st := K02.sLean) (ps := ["_law_top", "_law_base"]) KX G ?a ?l ?c ?k (fun _ _ _ _ _ _ us hl => match us, hl with | [_, _], _ => rfl) (fun d30 => ?_)
    (case a => k_is); (case l => k_is); (case c => k_is); (case k => k_is)
    refine' Tw.with_def (x := "_law_small") (st := K02.sSmall) (ps := ["_law_well_here"]) KX G ?a ?l ?c ?k (fun _ _ _ _ _ _ us hl => match us, hl with | [_], _ => rfl) (fun d31 => ?_)
    (case a => k_is); (case l => k_is); (case c => k_is); (case k => k_is)
    refine' Tw.with_def (x := "_law_part") (st := K02.sPart) (ps := ["_law_well_here"]) KX G ?a ?l ?c ?k (fun _ _ _ _ _ _ us hl => match us, hl with | [_], _ => rfl) (fun d32 => ?_)
    (case a => k_is); (case l => k_is); (case c => k_is); (case k => k_is)
    refine' Tw.with_def (x := "_law_trim") (st := K02.sTrim) (ps := ["_law_some"]) KX G ?a ?l ?c ?k (fun _ _ _ _ _ _ us hl => match us, hl with | [_], _ => rfl) (fun d33 => ?_)
    (case a => k_is); (case l => k_is); (case c => k_is); (case k => k_is)
    refine' Tw.with_def (x := "_law_line") (st := K02.sLine) (ps := ["_law_well_here", "_law_few"]) KX G ?a ?l ?c ?k (fun _ _ _ _ _ _ us hl => match us, hl with | [_, _], _ => rfl) (fun d34 => ?_)
    (case a => k_is); (case l => k_is); (case c => k_is); (case k => k_is)
    refine' Tw.with_def (x := "_law_sum") (st := K02.sSum) (ps := ["_law_one", "_law_two"]) KX G ?a ?l ?c ?k (fun _ _ _ _ _ _ us hl => match us, hl with | [_, _], _ => rfl) (fun d35 => ?_)
    (case a => k_is); (case l => k_is); (case c => k_is); (case k => k_is)
    refine' Tw.with_def (x := "_law_scaled") (st := K02.sLScaled) (ps := ["_law_line_here", "_law_by"]) KX G ?a ?l ?c ?k (fun _ _ _ _ _ _ us hl => match us, hl with | [_, _], _ => rfl) (fun d36 => ?_)
    (case a => k_is); (case l => k_is); (case c => k_is); (case k => k_is)
    refine' Tw.with_def (x := "_law_product") (st := K02.sProd) (ps := ["_law_one", "_law_two"]) KX G ?a ?l ?c ?k (fun _ _ _ _ _ _ us hl => match us, hl with | [_, _], _ => rfl) (fun d37 => ?_)
    (case a => k_is); (case l => k_is); (case c => k_is); (case k => k_is)
    refine' Tw.with_def (x := "_law_slope") (st := K02.sSlope) (ps := ["_law_line_here"]) KX G ?a ?l ?c ?k (fun _ _ _ _ _ _ us hl => match us, hl with | [_], _ => rfl) (fun d38 => ?_)
    (case a => k_is); (case l => k_is); (case c => k_is); (case k => k_is)
    refine' Tw.with_def (x := "_law_value") (st := K02.sValue) (ps := ["_law_line_here", "_law_part_here"]) KX G ?a ?l ?c ?k (fun _ _ _ _ _ _ us hl => match us, hl with | [_, _], _ => rfl) (fun d39 => ?_)
    (case a => k_is); (case l => k_is); (case c => k_is); (case k => k_is)
    refine' Tw.with_def (x := "_law_worth") (st := K02.sWorth) (ps := ["_law_line_here", "_law_part_here"]) KX G ?a ?l ?c ?k (fun _ _ _ _ _ _ us hl => match us, hl with | [_, _], _ => rfl) (fun d40 => ?_)
    (case a => k_is); (case l => k_is); (case c => k_is); (case k => k_is)
    refine' Tw.with_def (x := "_law_thin") (st := K02.sThin) (ps := ["_law_line_here"]) KX G ?a ?l ?c ?k (fun _ _ _ _ _ _ us hl => match us, hl with | [_], _ => rfl) (fun d41 => ?_)
    (case a => k_is); (case l => k_is); (case c => k_is); (case k => k_is)
    refine' Tw.with_def (x := "_law_prime") (st := K02.sPrime) (ps := ["_law_line_here"]) KX G ?a ?l ?c ?k (fun _ _ _ _ _ _ us hl => match us, hl with | [_], _ => rfl) (fun d42 => ?_)
    (case a => k_is); (case l => k_is); (case c => k_is); (case k => k_is)
    refine' Tw.with_def (x := "_law_is_whole") (st := K02.sLWhole) (ps := ["_law_thing"]) KX G ?a ?l ?c ?k (fun _ _ _ _ _ _ us hl => match us, hl with | [_], _ => rfl) (fun d43 => ?_)
    (case a => k_is); (case l => k_is); (case c => k_is); (case k => k_is)
    refine' Tw.with_def (x := "_law_is_row") (st := K02.sLRow) (ps := ["_law_thing"]) KX G ?a ?l ?c ?k (fun _ _ _ _ _ _ us hl => match us, hl with | [_], _ => rfl) (fun d44 => ?_)
    (case a => k_is); (case l => k_is); (case c => k_is); (case k => k_is)
    refine' Tw.with_def (x := "_law_odd") (st := K02.sOdd) (ps := ["_law_well_here"]) KX G ?a ?l ?c ?k (fun _ _ _ _ _ _ us hl => match us, hl with | [_], _ => rfl) (fun d45 => ?_)
    (case a => k_is); (case l => k_is); (case c => k_is); (case k => k_is)
    refine' Tw.with_def (x := "_law_bent") (st := K02.sBent) (ps := ["_law_well_here", "_law_thing"]) KX G ?a ?l ?c ?k (fun _ _ _ _ _ _ us hl => match us, hl with | [_, _], _ => rfl) (fun d46 => ?_)
    (case a => k_is); (case l => k_is); (case c => k_is); (case k => k_is)
    refine' Tw.with_def (x := "_law_turned") (st := K02.sTurned) (ps := ["_law_well_here", "_law_one"]) KX G ?a ?l ?c ?k (fun _ _ _ _ _ _ us hl => match us, hl with | [_, _], _ => rfl) (fun d47 => ?_)
    (case a => k_is); (case l => k_is); (case c => k_is); (case k => k_is)
    refine' Tw.with_def (x := "_law_put_in") (st := K02.sPutIn) (ps := ["_law_one", "_law_two"]) KX G ?a ?l ?c ?k (fun _ _ _ _ _ _ us hl => match us, hl with | [_, _], _ => rfl) (fun d48 => ?_)
    (case a => k_is); (case l => k_is); (case c => k_is); (case k => k_is)
    refine' Tw.with_def (x := "_law_right") (st := K02.sRight) (ps := ["_law_well_here"]) KX G ?a ?l ?c ?k (fun _ _ _ _ _ _ us hl => match us, hl with | [_], _ => rfl) (fun d49 => ?_)
    (case a => k_is); (case l => k_is); (case c => k_is); (case k => k_is)
    refine' Tw.with_def (x := "law") (st := K02.sLaw) (ps := ["_law_script"]) KX G ?a ?l ?c ?k (fun _ _ _ _ _ _ us hl => match us, hl with | [_], _ => rfl) (fun d50 => ?_)
    (case a => k_is); (case l => k_is); (case c => k_is); (case k => k_is)
    refine' Tw.with_no (x := "isinstance") KX G ?z (fun z0 => ?_)
    (case z => k_is)
    refine' Tw.with_no (x := "int") KX G ?z (fun z1 => ?_)
    (case z => k_is)
    refine' Tw.with_no (x := "bool") KX G ?z (fun z2 => ?_)
    (case z => k_is)
    refine' Tw.with_no (x := "tuple") KX G ?z (fun z3 => ?_)
    (case z => k_is)
    refine' Tw.with_no (x := "all") KX G ?z (fun z4 => ?_)
    (case z => k_is)
    refine' Tw.with_no (x := "len") KX G ?z (fun z5 => ?_)
    (case z => k_is)
    refine' Tw.with_no (x := "list") KX G ?z (fun z6 => ?_)
    (case z => k_is)
    refine' Tw.with_no (x := "divmod") KX G ?z (fun z7 => ?_)
    (case z => k_is)
    refine' Tw.with_no (x := "range") KX G ?z (fun z8 => ?_)
    (case z => k_is)
    refine' Tw.with_no (x := "max") KX G ?z (fun z9 => ?_)
    (case z => k_is)
    refine' Tw.with_no (x := "min") KX G ?z (fun z10 => ?_)
    (case z => k_is)
    refine' Tw.with_no (x := "abs") KX G ?z (fun z11 => ?_)
    (case z => k_is)
    refine' Tw.with_no (x := "repr") KX G ?z (fun z12 => ?_)
    (case z => k_is)
    refine' Tw.with_no (x := "reversed") KX G ?z (fun z13 => ?_)
    (case z => k_is)
    refine' Tw.with_no (x := "enumerate") KX G ?z (fun z14 => ?_)
    (case z => k_is)
    refine' K02.with_name (x := "gcd") (v := .builtin "math.gcd") KX G ?z (fun n_gc => ?_)
    (case z => k_is)
    refine' K02.with_name (x := "SHORT") (v := .int 6 493) KX G ?z (fun n_ns => ?_)
    (case z => k_is)
    exact Tw.end_law d50 hmg (fun base => K02.whole ⟨z0, z1, z2, z3, z4, z5, z6, z7, z8, z9, z10, z11, z12, z13, n_gc⟩ z14 ⟨_, n_ns⟩ d0 d1 d2 d3 d4 d5 d6 d7 d8 d9 d10 d11 d12 d13 d14 d15 d16 d17 d18 d19 d20 d21 d22 d23 d24 d25 d26 d27 d28 d29 d30 d31 d32 d33 d34 d35 d36 d37 d38 d39 d40 d41 d42 d43 d44 d45 d46 d47 d48 d49 d50) (fun _ _ _ _ _ _ _ => rfl)
