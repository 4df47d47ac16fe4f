import PyProof.Rows.All
import Wide.All
import OpenK.AllK
import Wide.FinOn
import HandS.ForMost
import HandS.IsInst
import HandS.TupAny
import HandS.Flow
import HandS.Evl
import HandS.TupMul
import HandS.SortKw
import HandS.WideBits
import HandS.Gcd
import HandS.Rev
import HandS.Style
import KE.DataMinMax
import KE.GoesMore
import PyProof.Draws
import HandS.Text
import HandS.StrMore
import PyProof.StrLawsFrom
import PyProof.StrBlock2
import PyProof.Rows.StrJoinRep
import PyProof.Rows.StrJoinMade
import PyProof.Rows.ReprOcc
import PyProof.ReprBulk
import HandS.Lambda
import HandS.ExcOwn
import HandS.WordsExc
import PySem.Challenge.RW_twoletters_k53_whole_words_and_spots
set_option Elab.async false
set_option linter.all false
set_option maxRecDepth 100000
set_option maxHeartbeats 4000000
/-! a def's promise where no container is being written out (for repr) -/
namespace Tw
open PySem PySem.Spec PyProof.Rows L2

/-- nothing is being written out around here -/
abbrev Qt (A : Around) : Prop := A.guards = some []

structure FnG (P : Program) (w : World) (K : PySem.W.Frag) (mg : Str → Option Value) (base : Heap) (k : Nat) (f : Addr)
    (fd : FuncData) (ps : List Str) (sp : Sp) : Prop where
  many : ∀ vs H Q E, sp vs H Q E → vs.length = ps.length
  goes : ∀ (A : Around) (out : List Env) (s : Shared) (H : Hp) (g : Args) (us : List Value) (vs : List V) (Q : VK) (E : XK),
    Qt A → Room k A → Env0 P w K mg base A out s H → BindsTo s fd g (ps.zip us) → Vals vs us → sp vs H Q E →
    codeAny (model P w) A (.call (.ref f) g) (CR CX0 out P w H s Q E) s

section
variable {P : Program} {w : World} {K : PySem.W.Frag} {mg : Str → Option Value} {base : Heap} {k j : Nat} {f : Addr}
  {fd : FuncData} {ps : List Str} {sp : Sp}
theorem FnG.of (F : FnOk P w K mg base CX0 k f fd ps sp) : FnG P w K mg base k f fd ps sp :=
  ⟨F.len, fun A out s H g us vs Q E _ hr => F.run A out s H g us vs Q E hr⟩
theorem FnG.up (F : FnG P w K mg base j f fd ps sp) (h : j ≤ k) : FnG P w K mg base k f fd ps sp :=
  ⟨F.many, fun A out s H g us vs Q E hq hr => F.goes A out s H g us vs Q E hq (hr.mono h)⟩
theorem FnG.imp {sp' : Sp} (F : FnG P w K mg base k f fd ps sp) (h : ∀ vs H Q E, sp' vs H Q E → sp vs H Q E) :
    FnG P w K mg base k f fd ps sp' :=
  ⟨fun vs H Q E q => F.many vs H Q E (h _ _ _ _ q),
   fun A out s H g us vs Q E hq hr he hb hv hs => F.goes A out s H g us vs Q E hq hr he hb hv (h _ _ _ _ hs)⟩

/-- a def by its body, the place where it runs being quiet -/
theorem Fun.okG {x qual : Str} {st : Stmt} {N : List Str} (F : Fun K x qual st f fd) (S : FnScope N ps (defScope st))
    (many : ∀ vs H Q E, sp vs H Q E → vs.length = ps.length)
    (hbody : ∀ (cdv : Value) (A : Around) (out : List Env) (s : Shared) (H : Hp) (vs : List V) (Q : VK) (E : XK),
      Qt (A.deeper (envOfC qual (defScope st) s.heap.objs.size f cdv)) →
      Room k (A.deeper (envOfC qual (defScope st) s.heap.objs.size f cdv)) → sp vs H Q E →
      ∃ t, PSs (cxOf CX0 P w K mg base N qual (defScope st) f cdv A out s H E).nox (defBody st) t ∧
        t { nx := fun _ H' => Q .non H', rt := Q } (start N vs) H) : FnG P w K mg base (k + 1) f fd ps sp := by
  obtain ⟨oc, od, kV, doc, pm, an, cdv, ct, osl, rfl, lk, hcd⟩ := F.ex
  refine ⟨many, fun A out s H g us vs Q E hq hr e0 hb r hsp => ?_⟩
  have hlen : vs.length = ps.length := many _ _ _ _ hsp
  have inS : ∀ b o, base.get? b = some o → s.heap.get? b = some o := fun b o e => (e0.bs b o e).1
  have kx : K.In s.heap := e0.mod.kin.keeps inS
  have nolim : s.heap.NoLimit := e0.mod.nolimit.keeps inS
  have kinds : ∀ y ∈ ps.zip us, (defScope st).names.lookup y.1 = some .local ∨
      ((defScope st).names.lookup y.1 = some .cell ∧
        ((cellsFrom (s.heap.objs.size + 1) (defScope st).names []).lookup y.1).isSome = true) := by
    rintro ⟨n, v⟩ hy
    cases S.par n (List.of_mem_zip hy).1 with
    | inl q => exact Or.inl q
    | inr q => exact Or.inr ⟨q, PySem.W.cellsFrom_some _ _ _ (Or.inl q)⟩
  have rec1 := PySem.W.codeRec_of kx hcd
  refine codeAny_call_function hr.depth (kx _ _ lk) rfl S.co S.gen rfl rec1 (hb _ _ _ _ ?_)
  refine wpAny_newFunctionEnv_cells S.kind kinds fun env he s1 x => ?_
  subst he
  refine ⟨nolim.keeps x.toInCall.keep, codeAny_func ?_⟩
  have hq' : Qt (A.deeper (envOfC qual (defScope st) s.heap.objs.size f cdv)) := hq
  obtain ⟨t, ht, hw⟩ := hbody cdv A out s H vs Q E hq' (hr.deeper _) hsp
  have I := inv_start (CX := CX0) (cd := cdv) (E := E) (f := f) (qual := qual) S hr.hd e0 hlen r x
  refine wpAny_mono (ht.nox.run [] s1 (start N vs) H _ I hw) (fun fl s' hs => ?_) fun e s' hs => hs
  cases fl with
  | ret u => obtain ⟨v, σ', H', J, rv, q⟩ := hs; exact ⟨v, H', J.os, J.bare, J.base, J.hok, rv, q⟩
  | next => obtain ⟨σ', H', J, q⟩ := hs; exact ⟨V.non, H', J.os, J.bare, J.base, J.hok, rfl, q⟩
  | brk => obtain ⟨_, _, _, q⟩ := hs; exact q.elim
  | cont => obtain ⟨_, _, _, q⟩ := hs; exact q.elim
end

section
variable {X : Cx} {k : Nat} {f : Addr} {fd : FuncData} {ps : List Str} {sp : Sp} {x : Str} {p pos : Pos} {e : Expr}
  {es : List Expr} {t : TA}
/-- f(e, ..), f a def that wants quiet -/
theorem pe_callG (F : FnG X.prog X.w X.K X.mg X.base k f fd ps sp) (hq : Qt X.A) (hr : Room k X.A) (hg : Gl X x)
    (hm : X.mg x = some (.ref f)) (hk : PySem.W.keepIn X.K (.ref f) = true) (hb : Binds X.K fd ps [])
    (ha : PA X (e :: es) t) (hdb : (x == ("__debug__" : Str)) = false := by decide)
    (he : starEach (e :: es) X.env = (false, eval e X.env) :: starEach es X.env := by rfl)
    (hpl : (backTo pos (starEach es X.env)).any (·.1) = false := by rfl) :
    PE X (.Call (.Name x p) (e :: es) [] pos) (tCall sp [] E0 t) := by
  refine ⟨fun pins s σ H Q I h => wpAny_Call_Name_kw (ld_glob I hg hm ?_ hdb)⟩
  refine PySem.W.callWith_K (h₀ := X.base) I.ok.mod.kin hk ?_ he hpl
  refine thn (ha.run pos pins s σ H _ I h) ?_
  rintro us s1 ⟨vs, H1, I1, r, q⟩
  refine ⟨I1.kIn, wpAny_call ?_⟩
  have q' : sp vs H1 Q E0 := by simpa using q
  have hl : us.length = ps.length := by rw [← Vals.length r]; exact F.many _ _ _ _ q'
  have b := hb s1 us I1.kIn (by simpa using hl)
  rw [List.append_nil] at b
  refine codeAny_mono (F.goes X.A X.stack s1 H1 ⟨us, []⟩ us vs Q E0 hq hr I1.env0 b r q') fun r s' hh => ?_
  cases r with
  | error z => exact False.elim hh
  | ok fl =>
    cases fl with
    | ret u => exact I1.after hh
    | next => exact False.elim hh
    | brk => exact False.elim hh
    | cont => exact False.elim hh
end
end Tw

set_option Elab.async false
set_option linter.all false
set_option maxRecDepth 100000
set_option maxHeartbeats 4000000
/-! the end of a law whose def wants quiet -/
namespace Tw
open PySem PySem.Spec PyProof.Rows L2

/-- a promise wide enough that says nothing of exceptions, over a heap in which the script alone may be known -/
theorem law_quiet {P : Program} {w : World} {K : PySem.W.Frag} {mg mb : Str → Option Value} {k : Nat} {fa a : Addr} {fd : FuncData}
    {x : Str} {sp : Sp} {s₁ : Shared} {vs : List Value} {ns : List Int} (KX : K.In s₁.heap) (hns : s₁.heap.Ns mainGlobals mg)
    (hb : s₁.heap.Ns builtinsNs mb) (hbb : ∀ x : Str, x ≠ "__name__" → mb x = bootBuiltins x) (hlim : s₁.heap.NoLimit)
    (hg : s₁.gens = #[]) (ha : s₁.heap.get? a = some { cls := .type "list", data := .seq vs.toArray }) (hi : IntsAre vs ns)
    (hl : ns.length ≤ sizeLine) (hr : Room k callerA)
    (F : ∀ base : Heap, K.In base → base.Ns mainGlobals mg → FnG P w K mg base k fa fd [x] sp)
    (hbind : ∀ (s : Shared) (u : Value), BindsTo s fd ⟨[u], []⟩ [(x, u)])
    (hsp : ∀ H : Hp, Only H → SqL K H a (ns.map V.int) → sp [.ref a] H (fun v _ => v = .bl true) E0) :
    codeAny (model P w) callerA (.call (.ref fa) ⟨[.ref a], []⟩)
      (fun r s' => r = .ok (.ret (.bool true)) ∧ OldK s₁.heap s'.heap ∧ s'.os = s₁.os ∧ AllBare s'.gens) s₁ := by
  have hv := vals_ints hi
  have hn := hi.length
  have main : ∀ H : Hp, Only H → SqL K H a (ns.map V.int) → HOk P w H s₁.heap → (∀ b u, H b = some u → b = a ∧ K.lookup a = none) →
      codeAny (model P w) callerA (.call (.ref fa) ⟨[.ref a], []⟩)
        (fun r s' => r = .ok (.ret (.bool true)) ∧ OldK s₁.heap s'.heap ∧ s'.os = s₁.os ∧ AllBare s'.gens) s₁ := by
    intro H hO hS hok hA
    have dictFree : ∀ {b : Addr} {o : Obj} {es : Array DictEntry} {ep : Nat},
        s₁.heap.get? b = some o → o.data = .dict es ep → H b = none := by
      intro b o es ep e d
      cases q : H b with
      | none => rfl
      | some u =>
        obtain ⟨e1, _⟩ := hA b u q
        rw [e1, ha] at e
        injection e with e
        rw [← e] at d
        exact absurd d (by intro z; cases z)
    have nsB : ∀ {b : Addr} {m : Str → Option Value}, s₁.heap.Ns b m → (hidT s₁.heap H).Ns b m := by
      rintro b m ⟨o, es, ep, e, d, r⟩
      exact ⟨o, es, ep, hidT_get e (dictFree e d), d, r⟩
    have kB : K.In (hidT s₁.heap H) := by
      intro b o e
      refine hidT_get (KX b o e) ?_
      cases q : H b with
      | none => rfl
      | some u =>
        obtain ⟨e1, e2⟩ := hA b u q
        rw [e1, e2] at e
        cases e
    have hM : Mod K mg (hidT s₁.heap H) := by
      obtain ⟨mc, l1, l2⟩ := hlim
      exact ⟨kB, nsB hns, ⟨mb, nsB hb, hbb⟩, ⟨mc, nsB l1, l2⟩⟩
    have noB : ∀ b : Addr, b ∈ frs ([] : List Env) → False := fun b z => by simp [frs] at z
    have e0 : Env0 P w K mg (hidT s₁.heap H) callerA [] s₁ H :=
      ⟨rfl, hM, fun b o e => of_hidT e, Nat.le_of_eq (hidT_size _ _), trivial, fun b z => (noB b z).elim, hok, .of_eq hg⟩
    have go := (F _ kB (nsB hns)).goes callerA [] s₁ H ⟨[.ref a], []⟩ [.ref a] [.ref a] (fun v _ => v = .bl true) E0 rfl hr e0
      (hbind s₁ (.ref a)) (.cons rfl .nil) (hsp H hO hS)
    refine codeAny_mono go fun r s' h => ?_
    cases r with
    | error e => exact False.elim h
    | ok fl =>
      cases fl with
      | next => exact False.elim h
      | brk => exact False.elim h
      | cont => exact False.elim h
      | ret u =>
        obtain ⟨v, H', os, bare, un, hok', rv, q⟩ := h
        subst q
        cases (show u = Value.bool true from rv)
        refine ⟨rfl, OldK.of_keep fun b o e => ?_, os, bare⟩
        cases q : H b with
        | none => exact un.keep b o e q (fun z => noB b z) (by simp)
        | some u =>
          cases hO b with
          | inl z => rw [q] at z; cases z
          | inr z =>
            obtain ⟨ob, xs, z⟩ := z
            have f1 := (hok b _ z).1
            have f2 := (hok' b _ (un.frzs b ob _ z)).1
            rw [e] at f1
            rw [f2, ← f1]
  cases hk : K.lookup a with
  | some o =>
    have e := KX a o hk
    rw [ha] at e
    injection e with e
    subst e
    refine main (fun _ => none) (fun _ => Or.inl rfl) (Or.inr ⟨_, vs.toArray, _, hk, rfl, rfl, rfl, ?_, by simpa using hv⟩) ?_ ?_
    · rw [List.size_toArray, hn]; exact hl
    · intro b u z; exact absurd z (by intro y; cases y)
    · intro b u z; exact absurd z (by intro y; cases y)
  | none =>
    let Ha : Hp := fun b => if b = a then some (.frz { cls := .type "list", data := .seq vs.toArray } (.lst (ns.map V.int))) else none
    have ya : ∀ b, b = a → Ha b = some (.frz { cls := .type "list", data := .seq vs.toArray } (.lst (ns.map V.int))) := fun b h => if_pos h
    have na : ∀ b, b ≠ a → Ha b = none := fun b h => if_neg h
    refine main Ha (fun b => ?_) (Or.inl (Or.inr ⟨_, ya a rfl⟩)) (fun b u z => ?_) (fun b u z => ?_)
    · by_cases h : b = a
      · exact Or.inr ⟨_, _, ya b h⟩
      · exact Or.inl (na b h)
    · by_cases h : b = a
      · rw [ya b h] at z
        injection z with z
        subst z h
        exact ⟨ha, by rw [List.length_map]; exact hl, vs, _, hv, ha⟩
      · rw [na b h] at z; cases z
    · by_cases h : b = a
      · exact ⟨h, hk⟩
      · rw [na b h] at z; cases z

theorem walk_quiet {l : PySem.W.OpenLaw} {n k : Nat} {q : Program} {loose : List Str} {XP : (Str → Option Value) → Heap → Prop}
    {YP : World → Heap → Prop} {d : DefRec} {K : Params → PySem.W.Frag} {sp : PySem.W.Frag → Sp} {x : Str} (hn : l.most = some n)
    (hn2 : n ≤ sizeLine) (hdf : d.params.defaults = []) (hr : Room k callerA)
    (hY : ∀ (w : World) (h : Heap), YP w h → (K w.params).In h)
    (F : ∀ (w : World) (mg : Str → Option Value) (fa : Addr) (h : Heap), (K w.params).In h → h.Ns mainGlobals mg →
      mg d.name = some (.ref fa) → ∃ fd : FuncData, (∀ (s : Shared) (u : Value), BindsTo s fd ⟨[u], []⟩ [(x, u)]) ∧
        ∀ base : Heap, (K w.params).In base → base.Ns mainGlobals mg → FnG l.prog w (K w.params) mg base k fa fd [x] (sp (K w.params)))
    (hsp : ∀ (K : PySem.W.Frag) (H : Hp) (a : Addr) (ns : List Int), ns.length ≤ n → Only H → SqL K H a (ns.map V.int) →
      sp K [.ref a] H (fun v _ => v = .bl true) E0) :
    PySem.W.WalkO q loose XP YP l.row.toRowW d [] (fun f vs => PySem.call f vs) := by
  refine Att.attach_call hn hdf ?_
  intro w s₀ s₁ mg mb fa o pm cd doc a vs ns G Y ho hd hcd hmg hobj hints hlen hg
  have kx := hY w _ Y
  obtain ⟨fd, hb, hF⟩ := F w mg fa _ kx G.T.g hmg
  exact law_quiet kx G.T.g G.T.b G.T.builtins G.T.nolimit hg hobj hints (Nat.le_trans hlen hn2) hr hF hb
    fun H hO hS => hsp _ H a ns hlen hO hS
end Tw

set_option Elab.async false
set_option linter.all false
set_option maxRecDepth 100000
set_option maxHeartbeats 4000000
/-! data: what a value is, over the heap; the well at a -/
namespace Tw
open PySem PySem.Spec PyProof.Rows L2

/-- all that was known is known, but for what stands at a -/
def Kp (a : Addr) (H H' : Hp) : Prop := ∀ b o, b ≠ a → H b = some o → H' b = some o
/-- the well: a list of three ints -/
def We (a : Addr) (H : Hp) : Prop := ∃ x y z : Int, H a = some (.lst [.int x, .int y, .int z])
theorem Kp.refl (a : Addr) (H : Hp) : Kp a H H := fun _ _ _ h => h
theorem Kp.trans {a : Addr} {H H1 H2 : Hp} (x : Kp a H H1) (y : Kp a H1 H2) : Kp a H H2 := fun b o n h => y b o n (x b o n h)
theorem Kp.of {a : Addr} {H H' : Hp} (x : Same H H') : Kp a H H' := fun b o _ h => x b o h
theorem We.to {a : Addr} {H H' : Hp} (x : Same H H') (w : We a H) : We a H' := by
  obtain ⟨i, j, k, h⟩ := w
  exact ⟨i, j, k, x _ _ h⟩
theorem We.ne {a p : Addr} {H : Hp} (w : We a H) (h : H p = none) : p ≠ a := by
  obtain ⟨i, j, k, e⟩ := w
  exact fun z => by rw [z, e] at h; cases h
theorem We.some {a : Addr} {H : Hp} (w : We a H) : H a ≠ none := by
  obtain ⟨i, j, k, e⟩ := w
  rw [e]
  exact fun z => by cases z
theorem same_new {H : Hp} {p : Addr} {o : HO} (h : H p = none) : Same H (upd H p o) := fun b u e => by
  rw [upd_ne (ne_of_none e h)]; exact e
theorem kp_new {a : Addr} {H : Hp} {p : Addr} {o : HO} (h : H p = none) : Kp a H (upd H p o) := Kp.of (same_new h)
theorem we_new {a : Addr} {H : Hp} {p : Addr} {o : HO} (w : We a H) (h : H p = none) : We a (upd H p o) := w.to (same_new h)
theorem sz {n : Nat} (h : n ≤ 100000) : n ≤ sizeLine := Nat.le_trans h (by decide)

mutual
/-- the value is the datum; nothing of it is the well -/
inductive Da (a : Addr) (H : Hp) : V → PyData → Prop
  | non : Da a H .non .none
  | bl (b : Bool) : Da a H (.bl b) (.bool b)
  | int (i : Int) : Da a H (.int i) (.int i)
  | str (x : Str) : Da a H (.str x) (.str x)
  | lst {p : Addr} {xs : List V} {ds : List PyData} : p ≠ a → H p = some (.lst xs) → DaAll a H xs ds → Da a H (.ref p) (.list ds)
  | tup {p : Addr} {xs : List V} {ds : List PyData} : p ≠ a → H p = some (.tup xs) → DaAll a H xs ds → Da a H (.ref p) (.tuple ds)
  | dct {p : Addr} : p ≠ a → H p = some (.dK []) → Da a H (.ref p) (.dict [])
inductive DaAll (a : Addr) (H : Hp) : List V → List PyData → Prop
  | nil : DaAll a H [] []
  | cons {v : V} {vs : List V} {d : PyData} {ds : List PyData} : Da a H v d → DaAll a H vs ds → DaAll a H (v :: vs) (d :: ds)
end
section
variable {a : Addr} {H H' : Hp}
mutual
theorem Da.kp (k : Kp a H H') : ∀ {v : V} {d : PyData}, Da a H v d → Da a H' v d
  | _, _, .non => .non
  | _, _, .bl b => .bl b
  | _, _, .int i => .int i
  | _, _, .str x => .str x
  | _, _, .lst n h t => .lst n (k _ _ n h) (DaAll.kp k t)
  | _, _, .tup n h t => .tup n (k _ _ n h) (DaAll.kp k t)
  | _, _, .dct n h => .dct n (k _ _ n h)
theorem DaAll.kp (k : Kp a H H') : ∀ {vs : List V} {ds : List PyData}, DaAll a H vs ds → DaAll a H' vs ds
  | _, _, .nil => .nil
  | _, _, .cons h t => .cons (Da.kp k h) (DaAll.kp k t)
end
theorem Da.same (s : Same H H') {v : V} {d : PyData} (h : Da a H v d) : Da a H' v d := h.kp (Kp.of s)
theorem DaAll.same (s : Same H H') {v : List V} {d : List PyData} (h : DaAll a H v d) : DaAll a H' v d := h.kp (Kp.of s)
theorem DaAll.len : ∀ {vs : List V} {ds : List PyData}, DaAll a H vs ds → vs.length = ds.length
  | _, _, .nil => rfl
  | _, _, .cons _ t => congrArg Nat.succ t.len
theorem DaAll.get : ∀ {vs : List V} {ds : List PyData} {i : Nat} {v : V}, DaAll a H vs ds → vs[i]? = some v → ∃ d, ds[i]? = some d ∧ Da a H v d
  | _, _, _, _, .nil, h => by simp at h
  | _, _, 0, _, .cons h _, e => by simp at e; subst e; exact ⟨_, rfl, h⟩
  | _, _, i + 1, _, .cons _ t, e => by
    obtain ⟨d, h1, h2⟩ := t.get (i := i) (by simpa using e)
    exact ⟨d, by simpa using h1, h2⟩
theorem DaAll.append : ∀ {vs ws : List V} {ds es : List PyData}, DaAll a H vs ds → DaAll a H ws es → DaAll a H (vs ++ ws) (ds ++ es)
  | _, _, _, _, .nil, t => t
  | _, _, _, _, .cons h t, u => .cons h (t.append u)
theorem DaAll.drop : ∀ {vs : List V} {ds : List PyData} (n : Nat), DaAll a H vs ds → DaAll a H (vs.drop n) (ds.drop n)
  | _, _, 0, h => h
  | _, _, _ + 1, .nil => .nil
  | _, _, n + 1, .cons _ t => t.drop n
theorem DaAll.take : ∀ {vs : List V} {ds : List PyData} (n : Nat), DaAll a H vs ds → DaAll a H (vs.take n) (ds.take n)
  | _, _, 0, _ => .nil
  | _, _, _ + 1, .nil => .nil
  | _, _, n + 1, .cons h t => .cons h (t.take n)
theorem DaAll.rev : ∀ {vs : List V} {ds : List PyData}, DaAll a H vs ds → DaAll a H vs.reverse ds.reverse
  | _, _, .nil => .nil
  | _, _, .cons h t => by
    rw [List.reverse_cons, List.reverse_cons]
    exact t.rev.append (.cons h .nil)
/-- a slice of the values, of the data -/
def cutD (ds : List PyData) (lo hi : Option Int) : List PyData := (ds.drop (HT.sIx ds.length 0 lo)).take (HT.sIx ds.length ds.length hi - HT.sIx ds.length 0 lo)
theorem DaAll.cut {vs : List V} {ds : List PyData} (lo hi : Option Int) (h : DaAll a H vs ds) : DaAll a H (cutV vs lo hi) (cutD ds lo hi) := by
  unfold cutV cutD
  rw [h.len]
  exact (h.drop _).take _

mutual
theorem Da.dp {K : PySem.W.Frag} : ∀ {v : V} {d : PyData}, Da a H v d → d.canLay0 = true → Dp K H v d
  | _, _, .non, _ => .non
  | _, _, .bl b, _ => .bl b
  | _, _, .int i, _ => .int i
  | _, _, .str x, _ => .str x
  | _, _, .lst n h t, c => .lst (SqL.of h) (DaAll.dp t (by simpa [PyData.canLay0] using c))
  | _, _, .tup n h t, c => .tup (SqT.of h) (DaAll.dp t (by simpa [PyData.canLay0] using c))
  | _, _, .dct n h, c => by simp [PyData.canLay0] at c
theorem DaAll.dp {K : PySem.W.Frag} : ∀ {vs : List V} {ds : List PyData}, DaAll a H vs ds → PyData.canLayAll0 ds = true → DpAll K H vs ds
  | _, _, .nil, _ => .nil
  | _, _, .cons (d := d) (ds := ds) h t, c => by
    have c' : d.canLay0 = true ∧ PyData.canLayAll0 ds = true := by simpa [PyData.canLayAll0] using c
    exact .cons (Da.dp h c'.1) (DaAll.dp t c'.2)
end
end

/-! ### written data -/
mutual
def litOf : Expr → Option PyData
  | .Constant c _ _ => match c with
    | .none => some .none
    | .bool b => some (.bool b)
    | .int i => some (.int i)
    | .str x => some (.str x)
    | _ => none
  | .UnaryOp .USub (.Constant (.int i) _ _) _ => some (.int (-i))
  | .BinOp (.Constant (.int i) _ _) .Pow (.Constant (.int j) _ _) _ => if 0 ≤ j ∧ j ≤ 1000 ∧ i.natAbs < 1000 then some (.int (i ^ j.toNat)) else none
  | .Tuple es _ _ => match litsOf es with
    | some ds => if ds.length ≤ 1000 then some (.tuple ds) else none
    | none => none
  | .List es _ => match litsOf es with
    | some ds => if ds.length ≤ 1000 then some (.list ds) else none
    | none => none
  | .Dict [] [] _ => some (.dict [])
  | _ => none
def litsOf : List Expr → Option (List PyData)
  | [] => some []
  | e :: es => match litOf e, litsOf es with
    | some d, some ds => some (d :: ds)
    | _, _ => none
end
theorem _root_.L2.PE.weak {X : Cx} {e : Expr} {t t' : TE} (h : PE X e t) (k : ∀ σ H Q, t' σ H Q → t σ H Q) : PE X e t' := ⟨fun p s σ H Q I q => h.run p s σ H Q I (k σ H Q q)⟩
theorem _root_.L2.PA.weak {X : Cx} {e : List Expr} {t t' : TA} (h : PA X e t) (k : ∀ σ H Q, t' σ H Q → t σ H Q) : PA X e t' := ⟨fun o p s σ H Q I q => h.run o p s σ H Q I (k σ H Q q)⟩
/-- a new datum; a is any known place -/
def tLit (d : PyData) : TE := fun _ H Q => ∃ a, H a ≠ none ∧ ∀ v H', Same H H' → Da a H' v d → Q v H'
def tLits (ds : List PyData) : TA := fun _ H Q => ∃ a, H a ≠ none ∧ ∀ vs H', Same H H' → DaAll a H' vs ds → Q vs H'
theorem same_some {H H' : Hp} {a : Addr} (s : Same H H') (h : H a ≠ none) : H' a ≠ none := by
  cases e : H a with
  | none => exact absurd e h
  | some o => rw [s a o e]; exact fun z => by cases z
theorem new_ne {H : Hp} {a p : Addr} (h : H a ≠ none) (n : H p = none) : p ≠ a := fun z => h (by rw [← z]; exact n)
theorem star_lit {e : Expr} {es : List Expr} {env : Env} {d : PyData} (h : litOf e = some d) : starEach (e :: es) env = (false, eval e env) :: starEach es env := by
  cases e <;> first | rfl | (simp [litOf] at h)
section
variable {X : Cx}
mutual
theorem pe_lit : ∀ (e : Expr) {d : PyData}, litOf e = some d → PE X e (tLit d)
  | .Constant .none _ _, _, h => by
    have e := Option.some.inj h; subst e
    exact pe_non.weak fun σ H Q ⟨a, _, q⟩ => q _ _ (Same.refl H) .non
  | .Constant (.bool b) _ _, _, h => by
    have e := Option.some.inj h; subst e
    exact pe_bl.weak fun σ H Q ⟨a, _, q⟩ => q _ _ (Same.refl H) (.bl b)
  | .Constant (.int i) _ _, _, h => by
    have e := Option.some.inj h; subst e
    exact pe_int.weak fun σ H Q ⟨a, _, q⟩ => q _ _ (Same.refl H) (.int i)
  | .Constant (.str x) _ _, _, h => by
    have e := Option.some.inj h; subst e
    exact pe_str.weak fun σ H Q ⟨a, _, q⟩ => q _ _ (Same.refl H) (.str x)
  | .UnaryOp .USub (.Constant (.int i) _ _) _, _, h => by
    have e := Option.some.inj h; subst e
    exact (pe_un un_neg pe_int).weak fun σ H Q ⟨a, _, q⟩ => ⟨i, rfl, q _ _ (Same.refl H) (.int (-i))⟩
  | .BinOp (.Constant (.int i) _ _) .Pow (.Constant (.int j) _ _) _, d, h => by
    simp only [litOf] at h
    split at h
    · rename_i c
      have e := Option.some.inj h; subst e
      refine (pe_op op_pow pe_int pe_int).weak fun σ H Q ⟨a, _, q⟩ => ⟨i, j, rfl, rfl, ⟨c.1, by have := c.2.1; omega, by have := c.2.2; omega⟩, q _ _ (Same.refl H) (.int _)⟩
    · cases h
  | .Tuple es _ _, d, h => by
    simp only [litOf] at h
    split at h
    · rename_i ds hd
      split at h
      · rename_i c
        have e := Option.some.inj h; subst e
        refine (pe_tup (pa_lits es hd)).weak fun σ H Q ⟨a, n, q⟩ => ⟨a, n, fun vs H1 s1 d1 => ⟨sz (by rw [d1.len]; omega), fun p hp => ?_⟩⟩
        have s2 := same_new (o := .tup vs) hp
        exact q _ _ (s1.trans s2) (.tup (new_ne (same_some s1 n) hp) upd_same (d1.same s2))
      · cases h
    · cases h
  | .List es _, d, h => by
    simp only [litOf] at h
    split at h
    · rename_i ds hd
      split at h
      · rename_i c
        have e := Option.some.inj h; subst e
        refine (pe_lst (pa_lits es hd)).weak fun σ H Q ⟨a, n, q⟩ => ⟨a, n, fun vs H1 s1 d1 => ⟨sz (by rw [d1.len]; omega), fun p hp => ?_⟩⟩
        have s2 := same_new (o := .lst vs) hp
        exact q _ _ (s1.trans s2) (.lst (new_ne (same_some s1 n) hp) upd_same (d1.same s2))
      · cases h
    · cases h
  | .Dict [] [] _, d, h => by
    have e := Option.some.inj h; subst e
    refine pe_dnewK.weak fun σ H Q ⟨a, n, q⟩ => fun p hp => ?_
    exact q _ _ (same_new hp) (.dct (new_ne n hp) upd_same)
theorem pa_lits : ∀ (es : List Expr) {ds : List PyData}, litsOf es = some ds → PA X es (tLits ds)
  | [], _, h => by
    have e := Option.some.inj h; subst e
    exact pa_nil.weak fun σ H Q ⟨a, _, q⟩ => q _ _ (Same.refl H) .nil
  | e :: es, ds, h => by
    simp only [litsOf] at h
    split at h
    · rename_i d ds' hd hds
      have z := Option.some.inj h; subst z
      refine (pa_cons (pe_lit e hd) (pa_lits es hds) (star_lit hd)).weak fun σ H Q ⟨a, n, q⟩ => ⟨a, n, fun v H1 s1 d1 => ⟨a, same_some s1 n, fun vs H2 s2 d2 => ?_⟩⟩
      exact q _ _ (s1.trans s2) (.cons (d1.same s2) d2)
    · cases h
end
end
end Tw

set_option Elab.async false
set_option linter.all false
set_option maxRecDepth 100000
set_option maxHeartbeats 4000000
/-! rules: texts of data, a tuple beside the empty one, a tuple turned round, kinds of data -/
namespace Tw
open PySem PySem.Spec PyProof.Rows L2
section
variable {X : Cx}

/-- repr of a list, a tuple -/
def rShow (K : PySem.W.Frag) : List V → Hp → VK → Prop := fun xs H Q =>
  ∃ p d, xs = [.ref p] ∧ Dp K H (.ref p) d ∧ SeqAt.shaped d = true ∧ d.showable = true ∧ d.shown.length ≤ sizeLine ∧ Q (.str d.shown) H
theorem noDict_of {d : PyData} (h : SeqAt.shaped d = true) : d.hasDict = false := by
  have c := SeqAt.canLay_of_shaped h
  exact PyData.hasDict_of_canLay d c
theorem call_show (hq : Qt X.A) (hu : X.A.units + 70 < cLine) : CallR X (.builtin "repr") (rShow X.K) := by
  intro pins s σ H xs us Q I r h
  obtain ⟨p, d, rfl, hd, hs, hw, hz, q⟩ := h
  obtain ⟨u, rfl, rx⟩ := vals1 r
  obtain ⟨as, rd⟩ := Dp.reads I d _ u hd rx
  cases rx
  have dp := SeqAt.depth_of_shaped hs
  refine repr_of_reads' rd hw (fun z => ?_) hq (by omega) (fun _ _ e => e) (fun h' t k keep => ?_) hz
  · rw [noDict_of hs] at z; cases z
  · exact ⟨.str d.shown, H, I.kept keep, ⟨_, rfl⟩, q⟩

/-- a tuple beside an empty one -/
def rT0 (ne : Bool) (K : PySem.W.Frag) : R2 := fun x y H Q =>
  ∃ a b xs ys, x = .ref a ∧ y = .ref b ∧ SqT K H a xs ∧ SqT K H b ys ∧ ys = [] ∧ Q (.bl (if ne then !xs.isEmpty else xs.isEmpty)) H
theorem t0_val {xs : List V} {its its2 : List Value} (r1 : Vals xs its) (r2 : Vals [] its2) :
    ((List.range (min its.toArray.size its2.toArray.size)).all (fun _ => true) && its.toArray.size == its2.toArray.size) = xs.isEmpty := by
  cases r2
  cases r1 with
  | nil => rfl
  | cons _ _ => simp
theorem op_eqT0 (hu : X.A.units + 64 < cLine) : OpR X (compareOp .Eq) (rT0 false X.K) := by
  intro pins s σ H x y v u Q I rx ry h
  obtain ⟨a, b, xs, ys, rfl, rfl, ha, hb, rfl, q⟩ := h
  cases rx
  cases ry
  obtain ⟨its, r1, p1, _⟩ := I.tuple ha
  obtain ⟨its2, r2, p2, _⟩ := I.tuple hb
  refine SeqAt.RcAt.tuples (e := fun _ => true) p1 p2 (by omega) (fun j h1 h2 => ?_) _ _ _ _ ⟨.bl xs.isEmpty, H, I, ?_, q⟩
  · cases r2
    exact absurd h2 (by simp)
  · show Value.bool _ = Value.bool _
    rw [t0_val r1 r2]
theorem op_neT0 (hu : X.A.units + 64 < cLine) : OpR X (compareOp .NotEq) (rT0 true X.K) := by
  intro pins s σ H x y v u Q I rx ry h
  obtain ⟨a, b, xs, ys, rfl, rfl, ha, hb, rfl, q⟩ := h
  cases rx
  cases ry
  obtain ⟨its, r1, p1, _⟩ := I.tuple ha
  obtain ⟨its2, r2, p2, _⟩ := I.tuple hb
  refine SeqAt.RcNeAt.tuples (e := fun _ => true) p1 p2 (by omega) (fun j h1 h2 => ?_) _ _ _ _ ⟨.bl (!xs.isEmpty), H, I, ?_, q⟩
  · cases r2
    exact absurd h2 (by simp)
  · show Value.bool _ = Value.bool _
    rw [t0_val r1 r2]

/-! ### t[::-1] -/
theorem applied_rev {prog : Program} {w : World} {A : Around} {E : Value → Shared → Prop} {s : Shared} {sl : Addr} {vl vu vs : Value} {n : Nat} {Q : Int × Int × Nat → Shared → Prop}
    (hs : s.heap.IsSliceOf sl vl vu vs) (pl : IsPart vl none) (pu : IsPart vu none) (pt : IsPart vs (some (-1))) (h : Q ((n : Int) - 1, -1, n) s) :
    wpAny (model prog w) A (Builtin.Slice.sliceApplied (.ref sl) (pure (n : Int))) Q E s := by
  obtain ⟨ob, e1, e2, e3⟩ := id hs
  unfold Builtin.Slice.sliceApplied Builtin.Slice.sliceFields
  refine wpAny_bind (wpAny_bind (wpAny_field e1 e3 (x := vl) rfl ?_))
  refine wpAny_bind (wpAny_field e1 e3 (x := vu) rfl ?_)
  refine wpAny_bind (wpAny_field e1 e3 (x := vs) rfl (wpAny_pure ?_))
  refine wpAny_bind (HT.slicePart_ pt ?_)
  show wpAny _ _ (if ((-1 : Int) == 0) = true then _ else _) _ _ s
  rw [if_neg (by decide)]
  refine wpAny_bind (HT.slicePart_ pl ?_)
  refine wpAny_bind (HT.slicePart_ pu (wpAny_bind (wpAny_pure (wpAny_pure ?_))))
  have ep : Builtin.Slice.slicePlaces ((n : Int) - 1) (-1) (-1) = n := by
    unfold Builtin.Slice.slicePlaces
    have c1 : ¬ ((-1 : Int) > 0) := by decide
    simp only [c1, if_false]
    by_cases c : (n : Int) - 1 > -1
    · simp only [c, if_true]
      have : ((n : Int) - 1 - -1 - 1) / (- -1) = (n : Int) - 1 := by
        rw [show (- -1 : Int) = 1 by decide, Int.ediv_one]; omega
      omega
    · simp only [c, if_false]
      omega
  show Q (_, (-1 : Int), Builtin.Slice.slicePlaces ((n : Int) - 1) (-1) (-1)) s
  rw [ep]
  exact h
theorem fm_congr {α β : Type} {f g : α → Option β} : ∀ (l : List α), (∀ k ∈ l, f k = g k) → l.filterMap f = l.filterMap g
  | [], _ => rfl
  | k :: l, h => by
    rw [List.filterMap_cons, List.filterMap_cons, h k (by simp), fm_congr l fun j hj => h j (by simp [hj])]
theorem pick_rev (xs : Array Value) : ((List.range xs.size).filterMap fun (k : Nat) => xs[(((xs.size : Int) - 1) + (k : Int) * (-1)).toNat]?).toArray = xs.toList.reverse.toArray := by
  congr 1
  have e : (List.range xs.size).filterMap (fun (k : Nat) => xs[(((xs.size : Int) - 1) + (k : Int) * (-1)).toNat]?) = ((List.range xs.size).map fun k => xs.size - 1 - k).filterMap (xs[·]?) := by
    rw [List.filterMap_map]
    refine fm_congr _ fun k hk => ?_
    have hlt := List.mem_range.mp hk
    have e : (((xs.size : Int) - 1) + (k : Int) * (-1)).toNat = xs.size - 1 - k := by omega
    show xs[(((xs.size : Int) - 1) + (k : Int) * (-1)).toNat]? = xs[xs.size - 1 - k]?
    rw [e]
  rw [e, PySem.W.krv_range, List.filterMap_reverse, PySem.W.krv_all]
theorem getItem_rev {prog : Program} {w : World} {A : Around} {E : Value → Shared → Prop} {s : Shared} {t sl : Addr} {items : Array Value} {vl vu vs : Value} {Q : Value → Shared → Prop}
    (ht : IsTup s.heap t items) (hs : s.heap.IsSliceOf sl vl vu vs) (pl : IsPart vl none) (pu : IsPart vu none) (pt : IsPart vs (some (-1))) (hz : items.size ≤ sizeLine)
    (h : Q (.ref s.heap.objs.size) { s with heap := s.heap.push { cls := .type "tuple", data := .seq items.toList.reverse.toArray } }) :
    wpAny (model prog w) A (getItem (.ref t) (.ref sl)) Q E s := by
  have ty : s.TypeIs (.ref sl) "slice" := by obtain ⟨ob, e1, e2, e3⟩ := id hs; exact ⟨ob, e1, e2⟩
  have ok : sizeOk (.seq items.toList.reverse.toArray) := by
    show items.toList.reverse.toArray.size ≤ sizeLine
    simpa using hz
  unfold getItem
  (try with_reducible refine wpAny_holding ?_); (first | refine wpAny_bind (wpAny_pure ?_) | skip)
  refine wpAny_bind (wpAny_sequenceKey ht.typeIs (by decide) ?_)
  have sg := PyProof.Rows.slot_tuple_getitem
  refine wpAny_bind (wpAny_callSpecial?_slot (name := Str.ofString "__getitem__") ht.typeIs sg ?_)
  refine wpAny_call_entry sg ht.typeIs entry_tuple_getitem ?_ (args_tuple_getitem _ _)
  refine (show wpAny _ _ (Builtin.Tuple.tupleItemsOf (.ref t) >>= _) _ _ s from ?_)
  refine wpAny_bind (tupleItemsOf_ ht (wpAny_bind (wpAny_typeOf ty ?_)))
  rw [if_pos (by decide)]
  refine wpAny_bind (applied_rev hs pl pu pt ?_)
  have no : ¬ (((items.size : Int) - 1 == 0 && (-1 : Int) == 1 && items.size == items.size) = true) := by simp
  show wpAny _ _ (if ((items.size : Int) - 1 == 0 && (-1 : Int) == 1 && items.size == items.size) = true then _ else _) _ _ s
  rw [if_neg no, pick_rev]
  first
    | exact wpAny_bind (wpAny_bind (m := Builtin.Tuple.tupleExact _) (wpAny_newObj_type (wpAny_pure ⟨_, rfl, wpAny_pure h⟩) ok))
    | exact wpAny_bind (m := Builtin.Tuple.tupleExact _) (wpAny_newObj_type (wpAny_pure ⟨_, rfl, wpAny_pure h⟩) ok)
    | exact wpAny_bind (m := Builtin.Tuple.tupleExact _) (wpAny_newObj_type (wpAny_bind (wpAny_pure (wpAny_pure ⟨_, rfl, wpAny_pure h⟩))) ok)
    | exact wpAny_bind (wpAny_bind (m := Builtin.Tuple.tupleExact _) (wpAny_newObj_type (wpAny_pure (wpAny_pure ⟨_, rfl, wpAny_pure h⟩)) ok))
def tRevT (K : PySem.W.Frag) (te : TE) : TE := fun σ H Q => te σ H fun x H1 => ∃ a xs, x = .ref a ∧ SqT K H1 a xs ∧ ∀ p, H1 p = none → Q (.ref p) (upd H1 p (.tup xs.reverse))
theorem pe_revT {e : Expr} {te : TE} {k : Nat} {p1 p2 p3 pos : Pos} (he : PE X e te) :
    PE X (.Subscript e (.Slice none none (some (.UnaryOp .USub (.Constant (.int 1) k p1) p2)) p3) pos) (tRevT X.K te) := by
  refine ⟨fun pins s σ H Q I h => Subscript_ (thn (he.run pins s σ H _ I h) ?_)⟩
  rintro v s1 ⟨x, H1, I1, r1, a, xs, ex, hx, q⟩
  subst ex
  cases r1
  have step : PO X (some (.UnaryOp .USub (.Constant (.int 1) k p1) p2)) (tPart (tUn (rU fun i => .int (-i)) (tC (.int 1)))) := po_some (pe_un un_neg pe_int)
  refine wpAny_Slice (thn (po_none.run pins s1 σ H1 (fun o G => o = none ∧ G = H1) I1 ⟨rfl, rfl⟩) ?_)
  rintro vl s2 ⟨l, G2, I2, pl, rfl, rfl⟩
  refine thn (po_none.run pins s2 σ G2 (fun o G => o = none ∧ G = G2) I2 ⟨rfl, rfl⟩) ?_
  rintro vu s3 ⟨l3, G3, I3, pu, rfl, rfl⟩
  refine thn (step.run pins s3 σ G3 (fun o G => o = some (-1) ∧ G = G3) I3 ⟨1, rfl, -1, rfl, rfl, rfl⟩) ?_
  rintro vs s4 ⟨l4, G4, I4, pt, rfl, rfl⟩
  have I5 := I4.kept (h' := s4.heap.push { cls := .type "slice", data := .fields #[vl, vu, vs] }) (t' := s4.toks) fun b ob z => Heap.get?_push_of_some _ z
  obtain ⟨its, r, ht, hz⟩ := I5.tuple hx
  have hl := r.length
  refine tail_any (ops := [.ref a, .ref s4.heap.objs.size]) ht.typeIs PyProof.Rows.slot_tuple_getitem.lookup ?_ (by with_unfolding_all rfl)
  refine getItem_rev ht (Heap.IsSliceOf.new _ vl vu vs) pl pu pt (by rw [List.size_toArray]; omega) ?_
  have J := I5.laid (t' := s4.toks) (o := .tup xs.reverse) (fun b ob z => Heap.get?_push_of_some _ z) (Nat.le_refl _)
    ⟨by rw [List.length_reverse]; exact hz, its.reverse, Vals.reverse r, IsTup.new _ _⟩
  exact ⟨.ref _, _, J, rfl, q _ (I5.hok.fresh (Nat.le_refl _))⟩
end

/-! ### kinds -/
def kindOf : PyData → String
  | .none => "NoneType"
  | .bool _ => "bool"
  | .int _ => "int"
  | .str _ => "str"
  | .list _ => "list"
  | .tuple _ => "tuple"
  | .dict _ => "dict"
theorem Da.ty {a : Addr} {H : Hp} {K : PySem.W.Frag} : ∀ {v : V} {d : PyData}, Da a H v d → TyX K H v (.type (kindOf d))
  | _, _, .non => .base .non
  | _, _, .bl b => .base (.bl b)
  | _, _, .int i => .base (.int i)
  | _, _, .str x => .base (.str x)
  | _, _, .lst _ h _ => .base (.lst h)
  | _, _, .tup _ h _ => .base (.tup h)
  | _, _, .dct _ h => .base (.dK h)
end Tw

set_option Elab.async false
set_option linter.all false
set_option maxRecDepth 100000
set_option maxHeartbeats 4000000
/-! defs of the text, and calls of them by name -/
namespace Tw
open PySem PySem.Spec PyProof.Rows L2

/-- the def st stands at the name x -/
def Def (K : PySem.W.Frag) (mg : Str → Option Value) (x : Str) (st : Stmt) (ps : List Str) : Prop :=
  ∃ f fd, Fun K x x st f fd ∧ mg x = some (.ref f) ∧ Binds K fd ps []
/-- f is a def, fd -/
def FdAt (K : PySem.W.Frag) (f : Addr) (fd : FuncData) : Prop := ∃ oc od osl, K.lookup f = some ⟨oc, od, .func fd, osl⟩
theorem fdAt {K : PySem.W.Frag} {x q : Str} {st : Stmt} {f : Addr} {fd : FuncData} (F : Fun K x q st f fd) : FdAt K f fd := by
  obtain ⟨oc, od, _, _, _, _, _, _, osl, _, lk, _⟩ := F.ex
  exact ⟨oc, od, osl, lk⟩
/-- what stands at the name x keeps the promise -/
def Cal (P : Program) (w : World) (K : PySem.W.Frag) (mg : Str → Option Value) (base : Heap) (x : Str) (k : Nat) (ps : List Str) (sp : Sp) : Prop :=
  ∃ f fd, FnOk P w K mg base CX0 k f fd ps sp ∧ mg x = some (.ref f) ∧ PySem.W.keepIn K (.ref f) = true ∧ Binds K fd ps [] ∧ FdAt K f fd
def CalG (P : Program) (w : World) (K : PySem.W.Frag) (mg : Str → Option Value) (base : Heap) (x : Str) (k : Nat) (ps : List Str) (sp : Sp) : Prop :=
  ∃ f fd, FnG P w K mg base k f fd ps sp ∧ mg x = some (.ref f) ∧ PySem.W.keepIn K (.ref f) = true ∧ Binds K fd ps [] ∧ FdAt K f fd
section
variable {P : Program} {w : World} {K : PySem.W.Frag} {mg : Str → Option Value} {base : Heap} {x : Str} {st : Stmt} {ps N : List Str} {k : Nat} {sp : Sp}
theorem Def.ok (D : Def K mg x st ps) (S : FnScope N ps (defScope st)) (many : ∀ vs H Q E, sp vs H Q E → vs.length = ps.length)
    (hbody : ∀ (f : Addr) (cdv : Value) (A : Around) (out : List Env) (s : Shared) (H : Hp) (vs : List V) (Q : VK) (E : XK),
      Room k (A.deeper (envOfC x (defScope st) s.heap.objs.size f cdv)) → sp vs H Q E →
      ∃ t, PSs (cxOf CX0 P w K mg base N x (defScope st) f cdv A out s H E).nox (defBody st) t ∧
        t { nx := fun _ H' => Q .non H', rt := Q } (start N vs) H) : Cal P w K mg base x (k + 1) ps sp := by
  obtain ⟨f, fd, F, m, b⟩ := D
  exact ⟨f, fd, F.ok S many (fun cdv A out s H vs Q E hr hs => hbody f cdv A out s H vs Q E hr hs), m, F.kp, b, fdAt F⟩
theorem Def.okG (D : Def K mg x st ps) (S : FnScope N ps (defScope st)) (many : ∀ vs H Q E, sp vs H Q E → vs.length = ps.length)
    (hbody : ∀ (f : Addr) (cdv : Value) (A : Around) (out : List Env) (s : Shared) (H : Hp) (vs : List V) (Q : VK) (E : XK),
      Qt (A.deeper (envOfC x (defScope st) s.heap.objs.size f cdv)) →
      Room k (A.deeper (envOfC x (defScope st) s.heap.objs.size f cdv)) → sp vs H Q E →
      ∃ t, PSs (cxOf CX0 P w K mg base N x (defScope st) f cdv A out s H E).nox (defBody st) t ∧
        t { nx := fun _ H' => Q .non H', rt := Q } (start N vs) H) : CalG P w K mg base x (k + 1) ps sp := by
  obtain ⟨f, fd, F, m, b⟩ := D
  exact ⟨f, fd, Fun.okG F S many (fun cdv A out s H vs Q E hq hr hs => hbody f cdv A out s H vs Q E hq hr hs), m, F.kp, b, fdAt F⟩
theorem Cal.imp {sp' : Sp} (C : Cal P w K mg base x k ps sp) (h : ∀ vs H Q E, sp' vs H Q E → sp vs H Q E) : Cal P w K mg base x k ps sp' := by
  obtain ⟨f, fd, F, r⟩ := C
  exact ⟨f, fd, F.imp h, r⟩
theorem Cal.up {j : Nat} (C : Cal P w K mg base x j ps sp) (h : j ≤ k) : Cal P w K mg base x k ps sp := by
  obtain ⟨f, fd, F, r⟩ := C
  exact ⟨f, fd, F.mono h, r⟩
theorem def_mk {h : Heap} {f : Addr} {oc kV dc pm cd ct : Value} {od an : Option Addr} {sl : Array (Option Value)} (X : K.In h) (G : h.Ns mainGlobals mg)
    (a : PySem.W.nsIn K mainGlobals x = some (some (.ref f)))
    (l : K.lookup f = some ⟨oc, od, .func (PySem.W.fnOf x x (defArgs st) (defBody st) (defScope st) .none kV dc pm an cd ct), sl⟩)
    (c : PySem.W.codeIn K cd x = true) (kp : PySem.W.keepIn K (.ref f) = true)
    (hb : ∀ (kV doc pm : Value) (an : Option Addr) (cdv ct : Value) (us : List Value), us.length = ps.length →
      bindArgs (PySem.W.fnOf x x (defArgs st) (defBody st) (defScope st) .none kV doc pm an cdv ct) ⟨us, []⟩ = pure (ps.zip us)) : Def K mg x st ps := by
  have F := fun_mk (st := st) l c kp
  exact ⟨f, _, F, PySem.W.mg_of X G a, F.binds hb⟩
end
section
variable {X : Cx} {k j : Nat} {ps : List Str} {sp : Sp} {x : Str} {p pos : Pos} {e : Expr} {es : List Expr} {t : TA}
/-- f(e, ..) -/
theorem pe_cal (C : Cal X.prog X.w X.K X.mg X.base x j ps sp) (hr : Room k X.A) (hj : j ≤ k) (hg : Gl X x) (ha : PA X (e :: es) t) (hdb : (x == ("__debug__" : Str)) = false := by decide)
    (he : starEach (e :: es) X.env = (false, eval e X.env) :: starEach es X.env := by rfl) (hpl : (backTo pos (starEach es X.env)).any (·.1) = false := by rfl) :
    PE X (.Call (.Name x p) (e :: es) [] pos) (tCall sp [] E0 t) := by
  obtain ⟨f, fd, F, m, kp, b, _⟩ := C
  exact pe_call F (hr.mono hj) hg m kp b .nil pass0 ha hdb he hpl
theorem pe_calG (C : CalG X.prog X.w X.K X.mg X.base x j ps sp) (hq : Qt X.A) (hr : Room k X.A) (hj : j ≤ k) (hg : Gl X x) (ha : PA X (e :: es) t) (hdb : (x == ("__debug__" : Str)) = false := by decide)
    (he : starEach (e :: es) X.env = (false, eval e X.env) :: starEach es X.env := by rfl) (hpl : (backTo pos (starEach es X.env)).any (·.1) = false := by rfl) :
    PE X (.Call (.Name x p) (e :: es) [] pos) (tCall sp [] E0 t) := by
  obtain ⟨f, fd, F, m, kp, b, _⟩ := C
  exact pe_callG F hq (hr.mono hj) hg m kp b ha hdb he hpl

/-- f(k = e, ..), nothing by position: ks the names as they are written, g puts the values in the parameters' order -/
theorem pe_calK {st : Stmt} {ks : List Str} {kws : List Keyword} (g : List Value → List Value) (gV : List V → List V) (C : Cal X.prog X.w X.K X.mg X.base x j ps sp) (D : Def X.K X.mg x st ps) (hr : Room k X.A) (hj : j ≤ k) (hg : Gl X x)
    (hb : ∀ (kV doc pm : Value) (an : Option Addr) (cdv ct : Value) (us : List Value), us.length = ks.length →
      bindArgs (PySem.W.fnOf x x (defArgs st) (defBody st) (defScope st) .none kV doc pm an cdv ct) ⟨[], ks.zip us⟩ = pure (ps.zip (g us)))
    (hrel : ∀ {zs : List V} {us : List Value}, Vals zs us → us.length = ks.length → Vals (gV zs) (g us)) (ha : PK X kws t)
    (hn : ∀ zs H Q, t zs H Q → t zs H fun vs H' => vs.length = ks.length ∧ Q vs H')
    (hall : (backToKw pos (keywordEach kws X.env)).all (·.1.isSome) = true := by rfl) (hks : (backToKw pos (keywordEach kws X.env)).filterMap (·.1) = ks := by rfl)
    (hdb : (x == ("__debug__" : Str)) = false := by decide)
    (hpl : ((backTo pos (starEach [] X.env)).any (·.1) || (backToKw pos (keywordEach kws X.env)).any (·.1.isNone)) = false := by rfl) :
    PE X (.Call (.Name x p) [] kws pos) (fun σ H Q => t σ H fun zs H1 => sp (gV zs) H1 Q E0) := by
  obtain ⟨f, fd, F, m, kp, b, oc, od, osl, lk⟩ := C
  obtain ⟨f', fd', F', m', _⟩ := D
  have e1 : f' = f := by rw [m] at m'; injection m' with z; injection z with z; exact z.symm
  subst e1
  obtain ⟨oc', od', kV, doc, pm, an, cdv, ct, osl', e2, lk', _⟩ := F'.ex
  rw [lk] at lk'
  injection lk' with lk'
  injection lk' with _ _ e3 _
  injection e3 with e3
  subst e3
  refine ⟨fun pins s σ H Q I h => wpAny_Call_Name_kw (ld_glob I hg m ?_ hdb)⟩
  refine PySem.W.callWith_KW0 (h₀ := X.base) I.ok.mod.kin kp hall ?_ hpl
  refine thn (ha.run pos pins s σ H _ I (hn σ H _ h)) ?_
  rintro ws s2 ⟨zs, H2, I2, rz, hl, q2⟩
  rw [hks]
  refine ⟨I2.kIn, wpAny_call ?_⟩
  have hw : ws.length = ks.length := by rw [← Vals.length rz]; exact hl
  have bt : BindsTo s2 fd ⟨[], ks.zip ws⟩ (ps.zip (g ws)) := by
    rw [e2]
    exact .of_eq (hb kV doc pm an cdv ct ws hw)
  refine codeAny_mono (F.run X.A X.stack s2 H2 ⟨[], ks.zip ws⟩ (g ws) (gV zs) Q E0 (hr.mono hj) I2.env0 bt (hrel rz hw) q2) fun r s' hh => ?_
  cases r with
  | error z => exact False.elim hh
  | ok fl =>
    cases fl with
    | ret u => exact I2.after hh
    | next => exact False.elim hh
    | brk => exact False.elim hh
    | cont => exact False.elim hh
end

section
variable {P : Program} {w : World} {K : PySem.W.Frag} {mg : Str → Option Value} {st : Stmt} {x y : Str} {k : Nat} {sp : Sp} {fa : Addr}
theorem end_law (D : Def K mg x st [y]) (hfa : mg x = some (.ref fa)) (F : ∀ base : Heap, CalG P w K mg base x k [y] sp)
    (hb : ∀ (kV doc pm : Value) (an : Option Addr) (cdv ct u : Value), bindArgs (PySem.W.fnOf x x (defArgs st) (defBody st) (defScope st) .none kV doc pm an cdv ct) ⟨[u], []⟩ = pure [(y, u)]) :
    ∃ fd : FuncData, (∀ (s : Shared) (u : Value), BindsTo s fd ⟨[u], []⟩ [(y, u)]) ∧ ∀ base : Heap, K.In base → base.Ns mainGlobals mg → FnG P w K mg base k fa fd [y] sp := by
  obtain ⟨f, fd, F', m, _⟩ := D
  have e1 : f = fa := by rw [hfa] at m; injection m with z; injection z with z; exact z.symm
  subst e1
  obtain ⟨oc, od, kV, doc, pm, an, cdv, ct, osl, e2, lk, _⟩ := F'.ex
  refine ⟨fd, fun s u => by rw [e2]; exact .of_eq (hb kV doc pm an cdv ct u), fun base _ _ => ?_⟩
  obtain ⟨f2, fd2, G, m2, _, _, oc2, od2, osl2, lk2⟩ := F base
  have e3 : f2 = f := by rw [hfa] at m2; injection m2 with z; injection z with z; exact z.symm
  subst e3
  rw [lk] at lk2
  injection lk2 with lk2
  injection lk2 with _ _ e4 _
  injection e4 with e4
  rw [e4]
  exact G
end

theorem with_def {R : Prop} {K : PySem.W.Frag} {mg : Str → Option Value} {x : Str} {st : Stmt} {ps : List Str} {h : Heap} {f : Addr} {oc kV dc pm cd ct : Value} {od an : Option Addr} {sl : Array (Option Value)} (X : K.In h) (G : h.Ns mainGlobals mg)
    (a : PySem.W.nsIn K mainGlobals x = some (some (.ref f)))
    (l : K.lookup f = some ⟨oc, od, .func (PySem.W.fnOf x x (defArgs st) (defBody st) (defScope st) .none kV dc pm an cd ct), sl⟩)
    (c : PySem.W.codeIn K cd x = true) (kp : PySem.W.keepIn K (.ref f) = true)
    (hb : ∀ (kV doc pm : Value) (an : Option Addr) (cdv ct : Value) (us : List Value), us.length = ps.length →
      bindArgs (PySem.W.fnOf x x (defArgs st) (defBody st) (defScope st) .none kV doc pm an cdv ct) ⟨us, []⟩ = pure (ps.zip us))
    (go : Def K mg x st ps → R) : R := go (def_mk X G a l c kp hb)
theorem with_no {R : Prop} {K : PySem.W.Frag} {mg : Str → Option Value} {x : Str} {h : Heap} (X : K.In h) (G : h.Ns mainGlobals mg) (z : PySem.W.nsIn K mainGlobals x = some none) (go : mg x = none → R) : R := go (PySem.W.mg_none_of X G z)
end Tw

set_option Elab.async false
set_option linter.all false
set_option maxRecDepth 100000
set_option maxHeartbeats 4000000
/-! comprehensions over data, small facts -/
namespace Tw
open PySem PySem.Spec PyProof.Rows L2
theorem same_upd {H H' : Hp} {D : Addr} {o : HO} (s : Same H H') (n : H D = none) : Same H (upd H' D o) := fun b u e => by
  rw [upd_ne (ne_of_none e n)]; exact s b u e
theorem kp_upd {a : Addr} {H H' : Hp} {D : Addr} {o : HO} (s : Kp a H H') (n : H D = none) : Kp a H (upd H' D o) := fun b u ne e => by
  rw [upd_ne (ne_of_none e n)]; exact s b u ne e
theorem lt_line {n : Nat} (h : n < 100000) : n < sizeLine := Nat.lt_of_lt_of_le h (by decide)
theorem take_map {α β : Type} (f : α → β) {ds : List α} {i : Nat} {d : α} (h : ds[i]? = some d) : (ds.take i).map f ++ [f d] = (ds.take (i + 1)).map f := by
  rw [List.take_add_one, h, List.map_append]; rfl
section
variable {K : PySem.W.Frag} {te : TE} {i j : Nat} {elt : TE} {vs : List Nat} {σ : L2.St} {H : Hp} {Q : VK} {a p : Addr} {xs : List V} {ds : List PyData}
/-- [f(d) for d in t], t a tuple of data -/
theorem lc_mapT (f : PyData → V) (hv : σ[i]? = some (some (.ref p))) (ht : H p = some (.tup xs)) (hd : DaAll a H xs ds) (hn : xs.length < 100000)
    (hw : ∀ x, wipe ((wipe σ vs).set j (some x)) vs = wipe σ vs)
    (he : ∀ x d H1, d ∈ ds → Same H H1 → Da a H1 x d → ∀ R : VK, (∀ H2, Same H1 H2 → R (f d) H2) → elt ((wipe σ vs).set j (some x)) H1 R)
    (q : ∀ D H', Same H H' → H D = none → H' D = some (.lst (ds.map f)) → Q (.ref D) H') : tLc (iTup K (tVar i)) (gName j) tYes elt vs σ H Q := by
  refine ⟨.ref p, hv, p, rfl, ⟨xs, SqT.of ht⟩, fun D hD => ?_⟩
  refine lc_tup (xs := xs) (fun m H' => Same H H' ∧ H' D = some (.lst ((ds.take m).map f))) ⟨same_new hD, upd_same⟩ (fun m H' _ h => SqT.of (h.1 _ _ ht)) (fun m x H1 hx h => ?_) (fun H' h => ?_)
  · obtain ⟨h1, h2⟩ := h
    obtain ⟨d, e1, e2⟩ := hd.get hx
    have hm : m < xs.length := (List.getElem?_eq_some_iff.mp hx).1
    refine ⟨hw x, ?_⟩
    unfold tYes
    simp only [if_true]
    refine he x d H1 (List.mem_of_getElem? e1) h1 (e2.same h1) _ fun H2 s2 => ⟨(ds.take m).map f, s2 _ _ h2, ?_, same_upd (h1.trans s2) hD, ?_⟩
    · rw [List.length_map, List.length_take]; exact lt_line (by omega)
    · rw [upd_same, take_map f e1]
  · obtain ⟨h1, h2⟩ := h
    rw [hd.len, List.take_length] at h2
    exact q D H' h1 hD h2
theorem lc_mapL (f : PyData → V) (hv : σ[i]? = some (some (.ref p))) (ht : H p = some (.lst xs)) (hd : DaAll a H xs ds) (hn : xs.length < 100000)
    (hw : ∀ x, wipe ((wipe σ vs).set j (some x)) vs = wipe σ vs)
    (he : ∀ x d H1, d ∈ ds → Same H H1 → Da a H1 x d → ∀ R : VK, (∀ H2, Same H1 H2 → R (f d) H2) → elt ((wipe σ vs).set j (some x)) H1 R)
    (q : ∀ D H', Same H H' → H D = none → H' D = some (.lst (ds.map f)) → Q (.ref D) H') : tLc (iList K (tVar i)) (gName j) tYes elt vs σ H Q := by
  refine ⟨.ref p, hv, p, rfl, ⟨xs, SqL.of ht⟩, fun D hD => ?_⟩
  refine lc_list (xs := xs) (fun m H' => Same H H' ∧ H' D = some (.lst ((ds.take m).map f))) ⟨same_new hD, upd_same⟩ (fun m H' _ h => SqL.of (h.1 _ _ ht)) (fun m x H1 hx h => ?_) (fun H' h => ?_)
  · obtain ⟨h1, h2⟩ := h
    obtain ⟨d, e1, e2⟩ := hd.get hx
    have hm : m < xs.length := (List.getElem?_eq_some_iff.mp hx).1
    refine ⟨hw x, ?_⟩
    unfold tYes
    simp only [if_true]
    refine he x d H1 (List.mem_of_getElem? e1) h1 (e2.same h1) _ fun H2 s2 => ⟨(ds.take m).map f, s2 _ _ h2, ?_, same_upd (h1.trans s2) hD, ?_⟩
    · rw [List.length_map, List.length_take]; exact lt_line (by omega)
    · rw [upd_same, take_map f e1]
  · obtain ⟨h1, h2⟩ := h
    rw [hd.len, List.take_length] at h2
    exact q D H' h1 hD h2
end

/-! ### kinds, tests of kinds -/
def isIntD : PyData → Bool
  | .int _ => true
  | .bool _ => true
  | _ => false
def isBoolD : PyData → Bool
  | .bool _ => true
  | _ => false
def isTupD : PyData → Bool
  | .tuple _ => true
  | _ => false
theorem isi_int {K : PySem.W.Frag} (d : PyData) : PySem.W.kitOne K (.type (kindOf d)) (.type "int") = some (isIntD d) := by
  cases d with
  | none => exact kit_ty (show kitB "NoneType" "int" = some false by decide +kernel)
  | bool _ => exact kit_ty (show kitB "bool" "int" = some true by decide +kernel)
  | int _ => exact kit_ty (show kitB "int" "int" = some true by decide +kernel)
  | str _ => exact kit_ty (show kitB "str" "int" = some false by decide +kernel)
  | list _ => exact kit_ty (show kitB "list" "int" = some false by decide +kernel)
  | tuple _ => exact kit_ty (show kitB "tuple" "int" = some false by decide +kernel)
  | dict _ => exact kit_ty (show kitB "dict" "int" = some false by decide +kernel)
theorem isi_bool {K : PySem.W.Frag} (d : PyData) : PySem.W.kitOne K (.type (kindOf d)) (.type "bool") = some (isBoolD d) := by
  cases d with
  | none => exact kit_ty (show kitB "NoneType" "bool" = some false by decide +kernel)
  | bool _ => exact kit_ty (show kitB "bool" "bool" = some true by decide +kernel)
  | int _ => exact kit_ty (show kitB "int" "bool" = some false by decide +kernel)
  | str _ => exact kit_ty (show kitB "str" "bool" = some false by decide +kernel)
  | list _ => exact kit_ty (show kitB "list" "bool" = some false by decide +kernel)
  | tuple _ => exact kit_ty (show kitB "tuple" "bool" = some false by decide +kernel)
  | dict _ => exact kit_ty (show kitB "dict" "bool" = some false by decide +kernel)
theorem isi_tup {K : PySem.W.Frag} (d : PyData) : PySem.W.kitOne K (.type (kindOf d)) (.type "tuple") = some (isTupD d) := by
  cases d with
  | none => exact kit_ty (show kitB "NoneType" "tuple" = some false by decide +kernel)
  | bool _ => exact kit_ty (show kitB "bool" "tuple" = some false by decide +kernel)
  | int _ => exact kit_ty (show kitB "int" "tuple" = some false by decide +kernel)
  | str _ => exact kit_ty (show kitB "str" "tuple" = some false by decide +kernel)
  | list _ => exact kit_ty (show kitB "list" "tuple" = some false by decide +kernel)
  | tuple _ => exact kit_ty (show kitB "tuple" "tuple" = some true by decide +kernel)
  | dict _ => exact kit_ty (show kitB "dict" "tuple" = some false by decide +kernel)
/-- isinstance(x, T) of a datum -/
theorem isi {K : PySem.W.Frag} {a : Addr} {H : Hp} {Q : VK} {v : V} {d : PyData} {T : String} {b : Bool} (h : Da a H v d) (k : PySem.W.kitOne K (.type (kindOf d)) (.type T) = some b) (q : Q (.bl b) H) :
    rIsi K [v, .ty T] H Q := ⟨v, .ty T, .type (kindOf d), .type T, b, rfl, .ty T, h.ty, k, q⟩

/-! ### how deep, how wide -/
mutual
def dep : PyData → Nat
  | .list ds => dep1 ds + 1
  | .tuple ds => dep1 ds + 1
  | _ => 0
def dep1 : List PyData → Nat
  | [] => 0
  | d :: ds => max (dep d) (dep1 ds)
end
mutual
def wid : PyData → Nat
  | .list ds => max ds.length (wid1 ds)
  | .tuple ds => max ds.length (wid1 ds)
  | _ => 0
def wid1 : List PyData → Nat
  | [] => 0
  | d :: ds => max (wid d) (wid1 ds)
end
theorem dep1_mem {d : PyData} : ∀ {ds : List PyData}, d ∈ ds → dep d ≤ dep1 ds
  | e :: ds, h => by
    rw [dep1]
    rcases List.mem_cons.mp h with rfl | h
    · exact Nat.le_max_left _ _
    · exact Nat.le_trans (dep1_mem h) (Nat.le_max_right _ _)
theorem wid1_mem {d : PyData} : ∀ {ds : List PyData}, d ∈ ds → wid d ≤ wid1 ds
  | e :: ds, h => by
    rw [wid1]
    rcases List.mem_cons.mp h with rfl | h
    · exact Nat.le_max_left _ _
    · exact Nat.le_trans (wid1_mem h) (Nat.le_max_right _ _)
theorem dep1_le {n : Nat} : ∀ {ds : List PyData}, (∀ d ∈ ds, dep d ≤ n) → dep1 ds ≤ n
  | [], _ => Nat.zero_le _
  | d :: ds, h => by
    rw [dep1]
    exact Nat.max_le.mpr ⟨h d (by simp), dep1_le fun e he => h e (by simp [he])⟩
theorem wid1_le {n : Nat} : ∀ {ds : List PyData}, (∀ d ∈ ds, wid d ≤ n) → wid1 ds ≤ n
  | [], _ => Nat.zero_le _
  | d :: ds, h => by
    rw [wid1]
    exact Nat.max_le.mpr ⟨h d (by simp), wid1_le fun e he => h e (by simp [he])⟩
/-- at most n deep, m wide -/
def Sm (n m : Nat) (d : PyData) : Prop := dep d ≤ n ∧ wid d ≤ m
theorem Sm.up {n m n' m' : Nat} {d : PyData} (h : Sm n m d) (h1 : n ≤ n') (h2 : m ≤ m') : Sm n' m' d := ⟨Nat.le_trans h.1 h1, Nat.le_trans h.2 h2⟩
theorem sm_tup {n m : Nat} {ds : List PyData} (hl : ds.length ≤ m) (h : ∀ d ∈ ds, Sm n m d) : Sm (n + 1) m (.tuple ds) :=
  ⟨by rw [dep]; exact Nat.succ_le_succ (dep1_le fun d hd => (h d hd).1), by rw [wid]; exact Nat.max_le.mpr ⟨hl, wid1_le fun d hd => (h d hd).2⟩⟩
theorem sm_lst {n m : Nat} {ds : List PyData} (hl : ds.length ≤ m) (h : ∀ d ∈ ds, Sm n m d) : Sm (n + 1) m (.list ds) :=
  ⟨by rw [dep]; exact Nat.succ_le_succ (dep1_le fun d hd => (h d hd).1), by rw [wid]; exact Nat.max_le.mpr ⟨hl, wid1_le fun d hd => (h d hd).2⟩⟩
theorem Sm.len {n m : Nat} {ds : List PyData} (h : Sm n m (.tuple ds)) : ds.length ≤ m := by
  have := h.2
  rw [wid] at this
  exact Nat.le_trans (Nat.le_max_left _ _) this
theorem Sm.dep1 {n m : Nat} {ds : List PyData} (h : Sm n m (.tuple ds)) : 1 ≤ n := by
  have := h.1
  rw [dep] at this
  omega
theorem Sm.mem {n m : Nat} {ds : List PyData} {d : PyData} (h : Sm n m (.tuple ds)) (hd : d ∈ ds) : Sm (n - 1) m d := by
  obtain ⟨h1, h2⟩ := h
  rw [dep] at h1
  rw [wid] at h2
  have := dep1_mem hd
  exact ⟨by omega, Nat.le_trans (wid1_mem hd) (Nat.le_trans (Nat.le_max_right _ _) h2)⟩
def smB (n m : Nat) (d : PyData) : Bool := decide (dep d ≤ n) && decide (wid d ≤ m)
theorem sm_of {n m : Nat} {d : PyData} (h : smB n m d = true) : Sm n m d := by
  unfold smB at h
  simpa [Sm] using h

/-- a loop over a range, its body already read -/
theorem for_rng {lo : Int} {n : Nat} {B : (L2.St → Hp → Prop) → V → L2.St → Hp → Prop} {nx : L2.St → Hp → Prop} {σ : L2.St} {H : Hp} (Pv : Nat → L2.St → Hp → Prop) (h0 : Pv 0 σ H)
    (hs : ∀ (i : Nat) σ' H', i < n → Pv i σ' H' → B (Pv (i + 1)) (.int (lo + i)) σ' H') (hd : ∀ σ' H', Pv n σ' H' → nx σ' H') :
    ∃ W : Nat → Nat → L2.St → Hp → Prop, (∃ m, W 0 m σ H) ∧ ∀ i m σ H, W i m σ H →
      ((Itr lo n).stop i H ∧ nx σ H) ∨ ((Itr lo n).go i H ∧ ∃ N : L2.St → Hp → Prop, (∀ σ' H', N σ' H' → ∃ m', m' < m ∧ W (i + 1) m' σ' H') ∧ ∀ x H', (Itr lo n).yld i H x H' → B N x σ H') := by
  refine ⟨fun i m σ H => m = n - i ∧ i ≤ n ∧ Pv i σ H, ⟨n, by simp, Nat.zero_le _, h0⟩, ?_⟩
  rintro i m σ' H' ⟨rfl, hi, p⟩
  by_cases c : i < n
  · refine Or.inr ⟨c, Pv (i + 1), fun σ2 H2 p2 => ⟨n - (i + 1), by omega, rfl, c, p2⟩, fun x H2 y => ?_⟩
    obtain ⟨e1, e2⟩ := y
    subst e1 e2
    exact hs i σ' _ c p
  · have e : i = n := by omega
    subst e
    exact Or.inl ⟨by show i ≤ i; omega, hd σ' H' p⟩

/-- a loop over a list, its body already read -/
theorem for_lst {K : PySem.W.Frag} {a : Addr} {xs : List V} {B : (L2.St → Hp → Prop) → V → L2.St → Hp → Prop} {nx : L2.St → Hp → Prop} {σ : L2.St} {H : Hp} (Pv : Nat → L2.St → Hp → Prop) (h0 : Pv 0 σ H)
    (hl : ∀ i σ' H', i ≤ xs.length → Pv i σ' H' → SqL K H' a xs)
    (hs : ∀ (i : Nat) x σ' H', xs[i]? = some x → Pv i σ' H' → B (Pv (i + 1)) x σ' H') (hd : ∀ σ' H', Pv xs.length σ' H' → nx σ' H') :
    ∃ W : Nat → Nat → L2.St → Hp → Prop, (∃ m, W 0 m σ H) ∧ ∀ i m σ H, W i m σ H →
      ((Itl K a).stop i H ∧ nx σ H) ∨ ((Itl K a).go i H ∧ ∃ N : L2.St → Hp → Prop, (∀ σ' H', N σ' H' → ∃ m', m' < m ∧ W (i + 1) m' σ' H') ∧ ∀ x H', (Itl K a).yld i H x H' → B N x σ H') := by
  refine ⟨fun i m σ H => m = xs.length - i ∧ i ≤ xs.length ∧ Pv i σ H, ⟨xs.length, by simp, Nat.zero_le _, h0⟩, ?_⟩
  rintro i m σ' H' ⟨rfl, hi, p⟩
  have ql := hl i σ' H' hi p
  by_cases c : i < xs.length
  · refine Or.inr ⟨⟨xs, xs[i], ql, by simp [c]⟩, Pv (i + 1), fun σ2 H2 p2 => ⟨xs.length - (i + 1), by omega, rfl, c, p2⟩, fun x H2 y => ?_⟩
    obtain ⟨e1, e2⟩ := y
    subst e1
    exact hs i x σ' _ (e2 xs ql) p
  · have e : i = xs.length := by omega
    subst e
    exact Or.inl ⟨⟨xs, ql, Nat.le_refl _⟩, hd σ' H' p⟩

theorem same_kp {a : Addr} {H H1 H2 : Hp} (s : Same H H1) (n : H a = none) (k : Kp a H1 H2) : Same H H2 := fun b o e => k b o (ne_of_none e n) (s b o e)
/-- [f(i) for i in range(n)] -/
theorem lc_rng {wi : TI} {j : Nat} {elt : TE} {vs : List Nat} {σ : L2.St} {H : Hp} {Q : VK} {n : Nat} (f : Nat → V) (hi : ∀ R : It → Hp → Prop, R (Itr 0 n) H → wi σ H R) (hn : n < 100000)
    (hw : ∀ x, wipe ((wipe σ vs).set j (some x)) vs = wipe σ vs)
    (he : ∀ (i : Nat) H1, i < n → Same H H1 → ∀ R : VK, (∀ H2, Same H1 H2 → R (f i) H2) → elt ((wipe σ vs).set j (some (.int (0 + (i : Int))))) H1 R)
    (q : ∀ D H', Same H H' → H D = none → H' D = some (.lst ((List.range n).map f)) → Q (.ref D) H') : tLc wi (gName j) tYes elt vs σ H Q := by
  refine hi _ fun D hD => ?_
  refine lc_range (lo := 0) (n := n) (fun m H' => Same H H' ∧ H' D = some (.lst ((List.range m).map f))) ⟨same_new hD, upd_same⟩ (fun m H1 hm h => ?_) (fun H' h => q D H' h.1 hD h.2)
  obtain ⟨h1, h2⟩ := h
  refine ⟨hw _, ?_⟩
  unfold tYes
  simp only [if_true]
  refine he m H1 hm h1 _ fun H2 s2 => ⟨(List.range m).map f, s2 _ _ h2, ?_, same_upd (h1.trans s2) hD, ?_⟩
  · rw [List.length_map, List.length_range]; exact lt_line (by omega)
  · rw [upd_same, List.range_succ, List.map_append]; rfl
end Tw

set_option Elab.async false
set_option linter.all false
set_option maxRecDepth 100000
set_option maxHeartbeats 4000000
/-! numbers that may be True or False -/
namespace Tw
open PySem PySem.Spec PyProof.Rows L2
/-- a number, True and False among them -/
inductive Nu : V → Int → Prop
  | int (i : Int) : Nu (.int i) i
  | bl (b : Bool) : Nu (.bl b) (if b = true then 1 else 0)
theorem nu_of {a : Addr} {H : Hp} {v : V} {d : PyData} (h : Da a H v d) (t : isIntD d = true) : ∃ i, Nu v i := by
  cases h with
  | int i => exact ⟨i, .int i⟩
  | bl b => exact ⟨_, .bl b⟩
  | _ => cases t
def rNl (f : Int → Int → Int) : R2 := fun x y H Q => ∃ i j, Nu x i ∧ y = .int j ∧ Q (.int (f i j)) H
def rNr (f : Int → Int → Int) : R2 := fun x y H Q => ∃ i j, x = .int i ∧ Nu y j ∧ Q (.int (f i j)) H
section
variable {X : Cx}
theorem op_addNl : OpR X (binaryOp .Add) (rNl fun i j => i + j) := by
  intro pins s σ H x y v u Q I rx ry h
  obtain ⟨i, j, nx, rfl, q⟩ := h
  obtain ⟨t, rfl⟩ := ry
  cases nx with
  | int _ => obtain ⟨t', rfl⟩ := rx; exact add_int ⟨.int _, H, I.tok _, ⟨_, rfl⟩, q⟩
  | bl b => cases rx; exact IntBool.add_bool_int ⟨.int _, H, I.tok _, ⟨_, rfl⟩, q⟩
theorem op_subNl : OpR X (binaryOp .Sub) (rNl fun i j => i - j) := by
  intro pins s σ H x y v u Q I rx ry h
  obtain ⟨i, j, nx, rfl, q⟩ := h
  obtain ⟨t, rfl⟩ := ry
  cases nx with
  | int _ => obtain ⟨t', rfl⟩ := rx; exact sub_int ⟨.int _, H, I.tok _, ⟨_, rfl⟩, q⟩
  | bl b => cases rx; exact IntBool.sub_bool_int ⟨.int _, H, I.tok _, ⟨_, rfl⟩, q⟩
theorem op_subNr : OpR X (binaryOp .Sub) (rNr fun i j => i - j) := by
  intro pins s σ H x y v u Q I rx ry h
  obtain ⟨i, j, rfl, ny, q⟩ := h
  obtain ⟨t, rfl⟩ := rx
  cases ny with
  | int _ => obtain ⟨t', rfl⟩ := ry; exact sub_int ⟨.int _, H, I.tok _, ⟨_, rfl⟩, q⟩
  | bl b => cases ry; exact IntBool.sub_int_bool ⟨.int _, H, I.tok _, ⟨_, rfl⟩, q⟩
/-- a small number times such a one -/
theorem op_mulNr : OpR X (binaryOp .Mult) (fun x y H Q => ∃ i j, x = .int i ∧ (-(2 ^ 64) < i ∧ i < 2 ^ 64) ∧ Nu y j ∧ Q (.int (i * j)) H) := by
  intro pins s σ H x y v u Q I rx ry h
  obtain ⟨i, j, rfl, ⟨b1, b2⟩, ny, q⟩ := h
  obtain ⟨t, rfl⟩ := rx
  cases ny with
  | int _ => obtain ⟨t', rfl⟩ := ry; exact mul_int ⟨.int _, H, I.tok _, ⟨_, rfl⟩, q⟩ (.of_left (intBits_le_64 b1 b2))
  | bl b => cases ry; exact IntBool.mul_int_bool ⟨.int _, H, I.tok _, ⟨_, rfl⟩, q⟩
/-- == of such a number and an int -/
theorem op_eqNl : OpR X (compareOp .Eq) (fun x y H Q => ∃ i j, Nu x i ∧ y = .int j ∧ Q (.bl (i == j)) H) := by
  intro pins s σ H x y v u Q I rx ry h
  obtain ⟨i, j, nx, rfl, q⟩ := h
  obtain ⟨t, rfl⟩ := ry
  cases nx with
  | int _ => obtain ⟨t', rfl⟩ := rx; exact eq_int ⟨.bl _, H, I, rfl, q⟩
  | bl b => cases rx; exact EqBoolInt.eq_bool_int ⟨.bl _, H, I, rfl, q⟩
end
end Tw

set_option Elab.async false
set_option linter.all false
set_option maxRecDepth 100000
set_option maxHeartbeats 4000000
/-! slices, sums, turned tuples of data -/
namespace Tw
open PySem PySem.Spec PyProof.Rows L2
section
variable {K : PySem.W.Frag} {a : Addr} {H : Hp} {v u : V} {ds es : List PyData} {Q : VK}
theorem da_tup (h : Da a H v (.tuple ds)) : ∃ p xs, v = .ref p ∧ p ≠ a ∧ H p = some (.tup xs) ∧ DaAll a H xs ds := by
  cases h with
  | tup n e r => exact ⟨_, _, rfl, n, e, r⟩
theorem cut_whole {ds : List PyData} {lo hi : Option Int} (h : HT.sIx ds.length 0 lo = 0 ∧ HT.sIx ds.length ds.length hi = ds.length) : cutD ds lo hi = ds := by
  unfold cutD
  rw [h.1, h.2, List.drop_zero, Nat.sub_zero, List.take_length]
theorem sl_da {lo hi : Option Int} (w : H a ≠ none) (h : Da a H v (.tuple ds)) (q : ∀ v' H', Same H H' → Da a H' v' (.tuple (cutD ds lo hi)) → Q v' H') : rSlA K v lo hi H Q := by
  obtain ⟨p, xs, rfl, np, hp, hx⟩ := da_tup h
  refine ⟨p, xs, rfl, SqT.of hp, fun c => ?_, fun c t nt => ?_⟩
  · rw [hx.len] at c
    exact q _ _ (Same.refl H) (by rw [cut_whole c]; exact h)
  · have s := same_new (o := .tup (cutV xs lo hi)) nt
    exact q _ _ s (.tup (new_ne w nt) upd_same ((hx.cut lo hi).same s))
theorem cat_da (w : H a ≠ none) (h : Da a H v (.tuple ds)) (g : Da a H u (.tuple es)) (hz : ds.length + es.length ≤ 100000) (q : ∀ v' H', Same H H' → Da a H' v' (.tuple (ds ++ es)) → Q v' H') : rCatA K v u H Q := by
  obtain ⟨p, xs, rfl, np, hp, hx⟩ := da_tup h
  obtain ⟨r, ys, rfl, nr, hr, hy⟩ := da_tup g
  refine ⟨p, r, xs, ys, rfl, rfl, SqT.of hp, SqT.of hr, sz (by rw [hx.len, hy.len]; exact hz), fun c => ?_, fun c c2 => ?_, fun c c2 t nt => ?_⟩
  · subst c
    cases hx
    exact q _ _ (Same.refl H) g
  · subst c2
    cases hy
    exact q _ _ (Same.refl H) (by rw [List.append_nil]; exact h)
  · have s := same_new (o := .tup (xs ++ ys)) nt
    exact q _ _ s (.tup (new_ne w nt) upd_same ((hx.append hy).same s))
theorem rev_da (w : H a ≠ none) (h : Da a H v (.tuple ds)) (q : ∀ v' H', Same H H' → Da a H' v' (.tuple ds.reverse) → Q v' H') :
    ∃ p xs, v = .ref p ∧ SqT K H p xs ∧ ∀ t, H t = none → Q (.ref t) (upd H t (.tup xs.reverse)) := by
  obtain ⟨p, xs, rfl, np, hp, hx⟩ := da_tup h
  refine ⟨p, xs, rfl, SqT.of hp, fun t nt => ?_⟩
  have s := same_new (o := .tup xs.reverse) nt
  exact q _ _ s (.tup (new_ne w nt) upd_same (hx.rev.same s))
theorem list_da (w : H a ≠ none) (h : Da a H v (.tuple ds)) (q : ∀ v' H', Same H H' → Da a H' v' (.list ds) → Q v' H') :
    ∃ p ys, [v] = [.ref p] ∧ (SqL K H p ys ∨ SqT K H p ys) ∧ ∀ l, H l = none → Q (.ref l) (upd H l (.lst ys)) := by
  obtain ⟨p, xs, rfl, np, hp, hx⟩ := da_tup h
  refine ⟨p, xs, rfl, .inr (SqT.of hp), fun t nt => ?_⟩
  have s := same_new (o := .lst xs) nt
  exact q _ _ s (.lst (new_ne w nt) upd_same (hx.same s))
/-- a written tuple of values that are data -/
theorem tup_da {vs : List V} (w : H a ≠ none) (h : DaAll a H vs ds) (hz : ds.length ≤ 100000) (q : ∀ v' H', Same H H' → Da a H' v' (.tuple ds) → Q v' H') :
    vs.length ≤ sizeLine ∧ ∀ p, H p = none → Q (.ref p) (upd H p (.tup vs)) := by
  refine ⟨sz (by rw [h.len]; exact hz), fun t nt => ?_⟩
  have s := same_new (o := .tup vs) nt
  exact q _ _ s (.tup (new_ne w nt) upd_same (h.same s))
theorem newT {vs : List V} {p : Addr} (w : H a ≠ none) (h : DaAll a H vs ds) (n : H p = none) : Same H (upd H p (.tup vs)) ∧ Da a (upd H p (.tup vs)) (.ref p) (.tuple ds) :=
  ⟨same_new n, .tup (new_ne w n) upd_same (h.same (same_new n))⟩
theorem newL {vs : List V} {p : Addr} (w : H a ≠ none) (h : DaAll a H vs ds) (n : H p = none) : Same H (upd H p (.lst vs)) ∧ Da a (upd H p (.lst vs)) (.ref p) (.list ds) :=
  ⟨same_new n, .lst (new_ne w n) upd_same (h.same (same_new n))⟩
/-- an item of such a one -/
theorem ix_da {i : Int} (h : Da a H v (.tuple ds)) (i0 : 0 ≤ i) (i1 : i < ds.length) (q : ∀ x d, d ∈ ds → Da a H x d → Q x H) : rIxT K v (.int i) H Q := by
  obtain ⟨p, xs, rfl, np, hp, hx⟩ := da_tup h
  obtain ⟨m, rfl⟩ := Int.eq_ofNat_of_zero_le i0
  have hm : m < xs.length := by rw [hx.len]; omega
  obtain ⟨d, e1, e2⟩ := hx.get (List.getElem?_eq_getElem hm)
  exact ⟨p, xs, _, xs[m], rfl, rfl, SqT.of hp, atI_nat (List.getElem?_eq_getElem hm), q _ d (List.mem_of_getElem? e1) e2⟩
end
theorem cut_mem {ds : List PyData} {lo hi : Option Int} {d : PyData} (h : d ∈ cutD ds lo hi) : d ∈ ds := List.mem_of_mem_drop (List.mem_of_mem_take h)
theorem cut_le (ds : List PyData) (lo hi : Option Int) : (cutD ds lo hi).length ≤ ds.length := by
  unfold cutD
  rw [List.length_take, List.length_drop]
  omega
theorem cut_upto (ds : List PyData) (k : Nat) : (cutD ds none (some (k : Int))).length = min k ds.length := by
  unfold cutD
  rw [HT.sIx_nat, HT.sIx_none, List.drop_zero, Nat.sub_zero, List.length_take]
  omega
theorem cut_from (ds : List PyData) (k : Nat) : (cutD ds (some (k : Int)) none).length = ds.length - min k ds.length := by
  unfold cutD
  rw [HT.sIx_nat, HT.sIx_none, List.length_take, List.length_drop]
  omega
theorem sm_sub {n m n' m' : Nat} {ds es : List PyData} (h : Sm n m (.tuple ds)) (hl : es.length ≤ m') (h1 : n ≤ n') (h2 : m ≤ m') (he : ∀ e ∈ es, e ∈ ds ∨ Sm (n' - 1) m' e) : Sm n' m' (.tuple es) := by
  have n1 := h.dep1
  have := sm_tup (n := n' - 1) hl fun e q => by
    rcases he e q with c | c
    · exact (h.mem c).up (by omega) h2
    · exact c
  exact this.up (by omega) (Nat.le_refl _)
theorem sm_subL {n m n' m' : Nat} {ds es : List PyData} (h : Sm n m (.tuple ds)) (hl : es.length ≤ m') (h1 : n ≤ n') (h2 : m ≤ m') (he : ∀ e ∈ es, e ∈ ds ∨ Sm (n' - 1) m' e) : Sm n' m' (.list es) := by
  have n1 := h.dep1
  have := sm_lst (n := n' - 1) hl fun e q => by
    rcases he e q with c | c
    · exact (h.mem c).up (by omega) h2
    · exact c
  exact this.up (by omega) (Nat.le_refl _)
theorem sm_int (n m : Nat) (i : Int) : Sm n m (.int i) := ⟨Nat.zero_le _, Nat.zero_le _⟩
theorem sm_bl (n m : Nat) (b : Bool) : Sm n m (.bool b) := ⟨Nat.zero_le _, Nat.zero_le _⟩
end Tw

set_option Elab.async false
set_option linter.all false
set_option maxRecDepth 100000
set_option maxHeartbeats 4000000
/-! rules: max with default, few times a tuple, *= and >>=, statements that are not reached -/
namespace Tw
open PySem PySem.Spec PyProof.Rows L2
section
variable {X : Cx}
/-- a statement that is not reached -/
def tDead : TS := fun _ _ _ => False
theorem ps_dead {st : Stmt} : PS X st tDead := ⟨fun _ _ _ _ _ _ h => h.elim⟩
theorem pss_dead {st : List Stmt} : PSs X st tDead := ⟨fun _ _ _ _ _ _ h => h.elim⟩
/-- max(l, default=0) of ints that are not negative -/
def maxN (ns : List Int) : Int := ns.foldl max 0
def rMaxZ (K : PySem.W.Frag) : List V → List V → Hp → VK → Prop := fun vs zs H Q => ∃ (a : Addr) (ns : List Int), vs = [.ref a] ∧ zs = [.int 0] ∧ SqL K H a (ns.map V.int) ∧ (∀ n ∈ ns, 0 ≤ n) ∧ Q (.int (maxN ns)) H
theorem cr_maxZ (hc : X.calm = true) (hu : X.A.units + 64 < cLine) : CallRK X (.builtin "max") [Str.ofString "default"] (rMaxZ X.K) := by
  intro pins s σ H vs zs us ws Q I r rz h
  obtain ⟨a, ns, rfl, rfl, hs, hn, q⟩ := h
  obtain ⟨its, rv, hl, _⟩ := I.list hs
  rw [Vals.ref1 r]
  obtain ⟨w1, rfl, e1⟩ := vals1 rz
  obtain ⟨t, rfl⟩ : ∃ t, w1 = Value.int 0 t := e1
  have rd : ReadsAll s.heap its.toArray.toList (ns.map .int) [] := IntsAre.reads _ rv.ints
  have dz : ∀ l : List Int, PyData.depthAll (l.map .int) = 0 := fun l => by
    induction l with
    | nil => rfl
    | cons n l ih => simp only [List.map_cons, PyData.depthAll, PyData.depth, ih]; rfl
  refine PySem.W.max_list_default (xs := ns.map .int) (I.ok.hd hc) hl.isList rd ⟨fun x hx y hy => ?_, fun x hx => ?_⟩ (by rw [dz]; show X.A.units + 1 + 0 < cLine; omega) (fun e h' tk k => ?_) (fun y ys i v h' tk bs e hv rv' k => ?_)
  · obtain ⟨i, _, rfl⟩ := List.mem_map.mp hx
    obtain ⟨j, _, rfl⟩ := List.mem_map.mp hy
    simp only [PySem.W.alike]
  · obtain ⟨i, _, rfl⟩ := List.mem_map.mp hx
    exact fun e => by cases e
  · have : ns = [] := by simpa using e
    subst this
    exact ⟨.int _, H, I.kept k, ⟨_, rfl⟩, q⟩
  · cases ns with
    | nil => cases e
    | cons n l =>
      rw [List.map_cons] at e
      injection e with e1 e2
      subst e1 e2
      rw [PySem.W.maxD_ints] at rv'
      cases rv' with
      | int _ t' =>
        have n0 := hn n (by simp)
        refine ⟨.int _, H, I.kept k, ⟨_, rfl⟩, ?_⟩
        have : maxN (n :: l) = l.foldl max n := by
          unfold maxN
          rw [List.foldl_cons]
          congr 1
          omega
        rw [← this]
        exact q
/-- o *= e, one of them small -/
theorem ip_mul : PIp X .Mult (fun x y H Q => ∃ i j, x = .int i ∧ y = .int j ∧ CMul i j ∧ Q (.int (i * j)) H) := by
  intro pins s σ H x y v u Q I r1 r2 h
  obtain ⟨i, j, rfl, rfl, c, q⟩ := h
  obtain ⟨t, rfl⟩ := r1
  obtain ⟨t', rfl⟩ := r2
  exact PyProof.Rows.imul_int ⟨.int _, H, I.tok _, ⟨_, rfl⟩, q⟩ c.ok
/-- o >>= 1 -/
theorem ip_half : PIp X .RShift (fun x y H Q => ∃ n : Nat, x = .int (n : Int) ∧ y = .int 1 ∧ Q (.int ((n / 2 : Nat) : Int)) H) := by
  intro pins s σ H x y v u Q I r1 r2 h
  obtain ⟨n, rfl, rfl, q⟩ := h
  obtain ⟨t, rfl⟩ := r1
  obtain ⟨t', rfl⟩ := r2
  refine PyProof.Rows.irshift_int (by decide) ?_
  rw [show (2 : Int) ^ (1 : Int).toNat = 2 from rfl, Int.fdiv_eq_ediv_of_nonneg _ (by decide)]
  exact ⟨.int _, H, I.tok _, ⟨_, rfl⟩, q⟩

/-! k times a tuple, k from 0 on -/
theorem tuple_mul1 (l : Addr) (items : Array Value) (n : Nat) (dd : Option Addr) (sl : Array (Option Value)) (u : Tok) :
    Meets (Builtin.«tuple.__mul__» ⟨[.ref l, .int 1 u], []⟩) (fun _ R s => s.heap.get? l = some { cls := .type "tuple", dict := dd, data := .seq items n, slots := sl } ∧ R (.ok (.ret (Value.ref l))) s) :=
  .of_wp fun prog w A R s h => by
    obtain ⟨hp, g, d, tk, os⟩ := s
    obtain ⟨hl, h⟩ := h
    have f1 := AutoSeq1.idx_int
    wp_walk using wpAny_loadPart' hl
    repeat (first
      | (refine wpAny_ite_false (by decide) ?_; wp_walk using wpAny_loadPart' hl)
      | (refine wpAny_ite_true (by simp) ?_; wp_walk using wpAny_loadPart' hl))
    exact ⟨_, rfl, h⟩
theorem tuple_mul0 (l : Addr) (items : Array Value) (n : Nat) (dd : Option Addr) (sl : Array (Option Value)) (u : Tok) (c1 : (items.isEmpty || (0 : Int) == 1) = false) :
    Meets (Builtin.«tuple.__mul__» ⟨[.ref l, .int 0 u], []⟩) (fun _ R s => s.heap.get? l = some { cls := .type "tuple", dict := dd, data := .seq items n, slots := sl } ∧
      R (.ok (.ret (Value.ref s.heap.objs.size))) { s with heap := s.heap.push { cls := Value.type "tuple", data := Data.seq #[] }, toks := s.toks }) :=
  .of_wp fun prog w A R s h => by
    obtain ⟨hp, g, d, tk, os⟩ := s
    obtain ⟨hl, h⟩ := h
    have f1 := AutoSeq1.idx_int
    wp_walk using wpAny_loadPart' hl
    repeat (first
      | (refine wpAny_ite_false (decide_eq_false (by rw [c1]; exact Bool.false_ne_true)) ?_; wp_walk using wpAny_loadPart' hl)
      | (refine wpAny_ite_false (by decide) ?_; wp_walk using wpAny_loadPart' hl)
      | (refine wpAny_ite_true (by simp) ?_; wp_walk using wpAny_loadPart' hl))
    exact ⟨_, rfl, h⟩
def rMulT (K : PySem.W.Frag) : R2 := fun x y H Q => ∃ (l : Addr) (k : Nat) (xs : List V), x = .ref l ∧ y = .int (k : Int) ∧ SqT K H l xs ∧ xs ≠ [] ∧ k ≤ 1000 ∧ xs.length ≤ 1000 ∧
  ∀ t H', Same H H' → SqT K H' t (List.replicate k xs).flatten → Q (.ref t) H'
theorem op_mulT : OpR X (binaryOp .Mult) (rMulT X.K) := by
  intro pins s σ H x y v u Q I rx ry h
  obtain ⟨l, k, xs, rfl, rfl, hT, hne, h1, hz, q⟩ := h
  rcases Nat.lt_or_ge 1 k with h2 | h2
  · exact op_repT pins s σ H _ _ v u Q I rx ry ⟨l, _, xs, rfl, rfl, hT, hne, by omega, by omega, hz, fun p np => q p _ (same_new np) (SqT.of (by rw [Int.toNat_natCast]; exact upd_same))⟩
  have rx' := rx
  cases rx
  obtain ⟨t, rfl⟩ := ry
  obtain ⟨its, r, ⟨⟨cls, dd, data, sl⟩, ho, hc, n, hd⟩, hs⟩ := I.tuple hT
  simp only at hc hd
  subst hc hd
  have hle : its.length = xs.length := r.length.symm
  have hn : its ≠ [] := fun e => hne (by
    rw [e] at hle
    exact List.eq_nil_of_length_eq_zero hle.symm)
  have hi : its.toArray.isEmpty = false := by
    cases its with
    | nil => exact absurd rfl hn
    | cons a b => rfl
  have hk : k = 0 ∨ k = 1 := by omega
  rcases hk with rfl | rfl
  · refine wpAny_binaryOp_repeat_ref (T := "tuple") (U := "int") (by decide) ⟨_, ho, rfl⟩ (fun s' => typeIs_int s' _ t) noFill_tuple_mul F.fills_int_mul F.slot_int_rmul repeat_tuple F.slot_int_index.lookup
      (call_meets F.slot_int_rmul (typeIs_int s _ t) F.entry_int_rmul (F.args_int_rmul_2 _ _) (int_rmul_tuple _ t l its.toArray n dd sl)
        ⟨ho, rfl, ⟨_, ho, rfl⟩, call_meets F.slot_tuple_mul ⟨_, ho, rfl⟩ F.entry_tuple_mul (F.args_tuple_mul_2 _ _) (tuple_mul0 l its.toArray n dd sl t (by rw [hi]; rfl)) ⟨ho, ?_⟩⟩)
    refine ⟨.ref s.heap.objs.size, _, I.laid (t' := s.toks) (o := .tup []) (fun b ob q => Heap.get?_push_of_some _ q) (Nat.le_refl _) ?_, rfl, q _ _ (same_new (I.hok.fresh (Nat.le_refl _))) (SqT.of upd_same)⟩
    exact ⟨by simp, _, .nil, IsTup.new _ _⟩
  · refine wpAny_binaryOp_repeat_ref (T := "tuple") (U := "int") (by decide) ⟨_, ho, rfl⟩ (fun s' => typeIs_int s' _ t) noFill_tuple_mul F.fills_int_mul F.slot_int_rmul repeat_tuple F.slot_int_index.lookup
      (call_meets F.slot_int_rmul (typeIs_int s _ t) F.entry_int_rmul (F.args_int_rmul_2 _ _) (int_rmul_tuple _ t l its.toArray n dd sl)
        ⟨ho, rfl, ⟨_, ho, rfl⟩, call_meets F.slot_tuple_mul ⟨_, ho, rfl⟩ F.entry_tuple_mul (F.args_tuple_mul_2 _ _) (tuple_mul1 l its.toArray n dd sl t) ⟨ho, ?_⟩⟩)
    exact ⟨.ref l, H, I, rfl, q _ _ (Same.refl H) (by simpa using hT)⟩
end
end Tw

set_option Elab.async false
set_option linter.all false
set_option maxRecDepth 100000
set_option maxHeartbeats 4000000
/-! for i, x in enumerate(t), t a tuple -/
namespace Tw
open PySem PySem.Spec PyProof.Rows L2
/-- the tuple's iterator, the enumerate over it, as they are made -/
def itO (p : Addr) : Obj :=
  { cls := .type "tuple_iterator", data := .fields #[.ref p, .int 0 0] }
def enO (i : Addr) : Obj :=
  { cls := .type "enumerate", data := .fields #[.none, .bool false, .ref i, rawInt 0, .none, .none] }
theorem enum_newT (p : Addr) (its : Array Value) (k : Nat) (dd : Option Addr) (sl : Array (Option Value)) :
    Meets (Builtin.«enumerate.__new__» ⟨[.type "enumerate", .ref p], []⟩) (fun _ R s =>
      s.heap.get? p = some ⟨.type "tuple", dd, .seq its k, sl⟩ ∧
      R (.ok (.ret (.ref (s.heap.push (itO p)).objs.size))) { s with heap := (s.heap.push (itO p)).push (enO s.heap.objs.size) }) := by
  refine .of_wp fun prog w A R s h => ?_
  obtain ⟨hp, gn, dr, tk, os⟩ := s
  obtain ⟨hl, h⟩ := h
  have hsub := sub_enumerate
  have isT : (Shared.heap ⟨hp, gn, dr, tk, os⟩).IsTuple p its := ⟨_, hl, rfl, k, rfl⟩
  wp_walk using AutoSeq1.wpAny_loadPart' hl
  refine wpAny_stack_any fun _ => ?_
  refine wpAny_pure ?_
  split
  · rename_i c _ _ _ _ _
    cases (c == Value.type "enumerate") <;>
    · wp_walk using AutoSeq1.wpAny_loadPart' hl, wpAny_pyIter_tuple isT
      exact ⟨_, rfl, h⟩
  · wp_walk using AutoSeq1.wpAny_loadPart' hl, wpAny_pyIter_tuple isT
    exact ⟨_, rfl, h⟩
section
variable {prog : Program} {w : World} {A : Around} {E : Value → Shared → Prop} {s : Shared}
theorem call_enumT {p : Addr} {its : Array Value} {Q : Value → Shared → Prop} (hT : s.heap.IsTuple p its)
    (h : ∀ h', IsEnum h' (s.heap.objs.size + 1) s.heap.objs.size 0 .none → h'.IsTupleIter s.heap.objs.size p 0 →
      (∀ b o, s.heap.get? b = some o → h'.get? b = some o) → Q (.ref (s.heap.objs.size + 1)) { s with heap := h' }) :
    wpAny (model prog w) A (call (.type "enumerate") [.ref p]) Q E s := by
  obtain ⟨⟨c, dd, dt, sl⟩, hl, hc, k, hd⟩ := hT
  cases (show c = .type "tuple" from hc)
  cases (show dt = .seq its k from hd)
  have z1 : (s.heap.push (itO p)).objs.size = s.heap.objs.size + 1 := Heap.size_push ..
  have g1 : ((s.heap.push (itO p)).push (enO s.heap.objs.size)).get? (s.heap.objs.size + 1) = some (enO s.heap.objs.size) := by
    rw [← z1]
    exact Heap.get?_push_size _ rfl
  have g0 : ((s.heap.push (itO p)).push (enO s.heap.objs.size)).get? s.heap.objs.size = some (itO p) :=
    Heap.get?_push_of_some _ (Heap.get?_push_size _ rfl)
  refine callType_new F.called_enumerate (by decide) (F.typeCall_enumerate_1 _) (F.newCall_enumerate_1 _)
    (fun obj => F.args_object_init_2 obj _) F.entry_enumerate_new (enum_newT p its k dd sl) ⟨hl, ?_⟩
  show _ ∧ _
  rw [z1]
  exact ⟨⟨_, g1, rfl⟩, h _ g1 ⟨_, g0, rfl, rfl⟩ fun b o y => Heap.get?_push_of_some _ (Heap.get?_push_of_some _ y)⟩
end
/-- the tuple at a, each item in a new pair with its number -/
def IteT (K : PySem.W.Frag) (a : Addr) : It where
  go := fun i H => ∃ (xs : List V) (x : V), SqT K H a xs ∧ xs[i]? = some x
  yld := fun i H v H' => ∃ t x, v = .ref t ∧ H t = none ∧ H' = upd H t (.tup [.int (i : Nat), x]) ∧
    ∀ xs, SqT K H a xs → xs[i]? = some x
  stop := fun i H => ∃ xs : List V, SqT K H a xs ∧ xs.length = i
theorem apart {h : Heap} {a b : Addr} {o u : Obj} {m n : String} (ha : h.get? a = some o) (hb : h.get? b = some u)
    (ca : o.cls = .type m) (cb : u.cls = .type n) (d : m ≠ n) : a ≠ b := by
  rintro rfl
  rw [ha] at hb
  cases hb
  rw [ca] at cb
  cases cb
  exact d rfl
theorem turn_enumT {P : Program} {w : World} {K : PySem.W.Frag} {elts : List Expr} {kk : Nat} {tpos : Pos} (a e it : Addr) :
    Turn P w K (.Tuple elts kk tpos) (IteT K a) [e, it] e
      (fun i h => (∃ old, IsEnum h e it ((i : Nat) : Int) old) ∧ h.IsTupleIter it a i ∧ e ≠ it) where
  mem := by simp
  obj := fun i h st b hb => by
    obtain ⟨⟨old, he⟩, ⟨o, ho, hc, hd⟩, _⟩ := st
    rcases List.mem_cons.mp hb with z | z
    · subst z; exact ⟨_, he, fun v q => nomatch q⟩
    · have z := List.mem_singleton.mp z
      subst z; exact ⟨o, ho, fun v q => by rw [hd] at q; cases q⟩
  keep := fun i h h' st k => by
    obtain ⟨⟨old, he⟩, hi, hne⟩ := st
    exact ⟨⟨old, k e (by simp) _ he⟩, hi.at fun o q => k it (by simp) o q, hne⟩
  item := by
    intro X hP hw hK hc i pins s σ H E I hf st hg
    subst hP hw hK
    obtain ⟨⟨old, he⟩, hit, hne⟩ := st
    obtain ⟨xs, x, hq, hx⟩ := hg
    obtain ⟨its, rv, p, hz⟩ := I.tuple hq
    obtain ⟨u, hu, ru⟩ := rv.get hx
    have isT : s.heap.IsTuple a its.toArray := p
    obtain ⟨oa, ga, ca, _⟩ := id isT
    obtain ⟨oi, gi, ci, _⟩ := id hit
    have nai : a ≠ it := apart ga gi ca ci (by decide)
    have nea : e ≠ a := apart he ga rfl ca (by decide)
    have hel : e < s.heap.objs.size := Heap.lt_size he
    have hil : it < s.heap.objs.size := Heap.lt_size gi
    have hlt : i < its.toArray.size := by
      have := (List.getElem?_eq_some_iff.mp hu).1
      simpa using this
    refine wpAny_pyNext_enum_itemD (Draws.tuple (A := X.A.in1) (I.ok.hd hc) it a nai its.toArray) he ⟨hit, isT⟩ hlt hne
      (by simp [hne, nea]) fun y h' tk hy ho st' hT hsz hk => ?_
    have yu : y = u := by
      have : its[i]? = some y := by simpa using hy
      rw [hu] at this
      cases this; rfl
    subst yu
    refine ⟨_, rfl, wpAny_letOwnedTupleGo_enum (s := { s with heap := h', toks := tk + 1 }) ho fun h2 he2 sb => ?_⟩
    have hT2 := (sb.2 _ (Nat.ne_of_gt hel)).trans hT
    have new : ObjOk X.prog X.w (upd H s.heap.objs.size (.tup [.int (i : Nat), x])) h2 s.heap.objs.size (.tup [.int (i : Nat), x]) :=
      ⟨by show 2 ≤ sizeLine; decide, [.int i tk, y], .cons ⟨_, rfl⟩ (.cons ru .nil), ⟨_, hT2, rfl, _, rfl⟩⟩
    have old2 : ∀ b ob, b ∉ [e, it] → s.heap.get? b = some ob → h2.get? b = some ob := fun b ob hb q => by
      have b1 : b ≠ e := fun z => hb (by simp [z])
      have b2 : b ≠ it := fun z => hb (by simp [z])
      exact (sb.2 b b1).trans (hk b ob b1 b2 q)
    have I1 := I.turnedNew (t' := tk + 1) (ch := [e, it]) old2 hf (Nat.le_refl _) new
    refine ⟨.ref s.heap.objs.size, _, I1, rfl, ⟨_, x, rfl, I.hok.fresh (Nat.le_refl _), rfl, fun ys hy => by rw [I.tuple_inj hy hq]; exact hx⟩,
      ⟨⟨y, he2⟩, st'.1.at fun o q => (sb.2 it (Ne.symm hne)).trans q, hne⟩, fun b hb => ?_⟩
    have hb' : b < s.heap.objs.size := by
      rcases List.mem_cons.mp hb with z | z
      · rw [z]; exact hel
      · rw [List.mem_singleton.mp z]; exact hil
    rw [upd_ne (Nat.ne_of_lt hb')]
    exact (hf b hb).1
  done := by
    intro X hP hw hK hc i pins s σ H E I hf st hg
    subst hP hw hK
    obtain ⟨⟨old, he⟩, hit, hne⟩ := st
    obtain ⟨xs, hq, hx⟩ := hg
    obtain ⟨its, rv, p, hz⟩ := I.tuple hq
    obtain ⟨oa, ga, ca, _⟩ := id (show s.heap.IsTuple a its.toArray from p)
    obtain ⟨oi, gi, ci, _⟩ := id hit
    have nai : a ≠ it := apart ga gi ca ci (by decide)
    obtain ⟨f0, f1, f2, f3, f4, f5⟩ := hf it (by simp)
    have ei : i = its.toArray.size := by
      rw [← hx, rv.length, List.size_toArray]
    subst ei
    refine wpAny_pyNext_enum_endD (Draws.tuple (A := X.A.in1) (I.ok.hd hc) it a nai its.toArray) he ⟨hit, p⟩ fun h' eb => ?_
    exact ⟨rfl, I.turned (t' := s.toks) (fun b o hb q => eb b o hb q) f0 f1 f3 f4 f5⟩
  self := fun A i s Q E st h => by
    obtain ⟨⟨_, he⟩, _⟩ := st
    exact wpAny_pyIter_enum he h
/-- enumerate(e), e a tuple -/
def iEnumT (K : PySem.W.Frag) (te : TE) : TI := fun σ H R =>
  te σ H fun v H1 => ∃ a xs, v = .ref a ∧ SqT K H1 a xs ∧ R (IteT K a) H1
theorem pi_enumT {X : Cx} {e : Expr} {te : TE} {p pos tpos : Pos} {elts : List Expr} {kk : Nat} (hg : Gl X "enumerate")
    (hm : X.mg "enumerate" = none) (he : PE X e te) (hs : starEach [e] X.env = (false, eval e X.env) :: starEach [] X.env := by rfl) :
    PI X (.Tuple elts kk tpos) (.Call (.Name "enumerate" p) [e] [] pos) (iEnumT X.K te) := by
  refine ⟨fun pins s σ H R I h => ?_⟩
  refine Call_ (ld_blt I hg hm boot_enumerate (PyProof.Rows.callWith_type1 (args_cons
    (thn (he.run pins s σ H _ I h) fun u s1 ⟨v, H1, I1, r1, q1⟩ => args_nil ?_) hs) hs rfl))
  obtain ⟨a, xs, rfl, hq, q⟩ := q1
  cases r1
  obtain ⟨its, rv, isT, hz⟩ := I1.tuple hq
  refine call_enumT (show s1.heap.IsTuple a its.toArray from isT) fun h' en ti keep => wpAny_pyIter_enum en ?_
  refine ⟨s1.heap.objs.size + 1, [s1.heap.objs.size + 1, s1.heap.objs.size], _, _, H1, rfl, I1.kept (t' := s1.toks) keep,
    turn_enumT a (s1.heap.objs.size + 1) s1.heap.objs.size, ⟨⟨.none, en⟩, ti, Nat.succ_ne_self _⟩, fun b hb => ?_, q⟩
  have le : s1.heap.objs.size ≤ b := by
    rcases List.mem_cons.mp hb with z | z
    · rw [z]; exact Nat.le_add_right _ _
    · rw [List.mem_singleton.mp z]; exact Nat.le_refl _
  exact I1.fpOk le (I1.hok.fresh le)
/-- a loop over such pairs, its body already read -/
theorem for_enumT {K : PySem.W.Frag} {a : Addr} {xs : List V} {B : (L2.St → Hp → Prop) → V → L2.St → Hp → Prop} {nx : L2.St → Hp → Prop} {σ : L2.St} {H : Hp}
    (Pv : Nat → L2.St → Hp → Prop) (h0 : Pv 0 σ H) (hl : ∀ i σ' H', i ≤ xs.length → Pv i σ' H' → SqT K H' a xs)
    (hs : ∀ (i : Nat) x t σ' H', xs[i]? = some x → Pv i σ' H' → H' t = none → B (Pv (i + 1)) (.ref t) σ' (upd H' t (.tup [.int (i : Nat), x])))
    (hd : ∀ σ' H', Pv xs.length σ' H' → nx σ' H') :
    ∃ W : Nat → Nat → L2.St → Hp → Prop, (∃ m, W 0 m σ H) ∧ ∀ i m σ H, W i m σ H →
      ((IteT K a).stop i H ∧ nx σ H) ∨ ((IteT K a).go i H ∧ ∃ N : L2.St → Hp → Prop, (∀ σ' H', N σ' H' → ∃ m', m' < m ∧ W (i + 1) m' σ' H') ∧
        ∀ x H', (IteT K a).yld i H x H' → B N x σ H') := by
  refine ⟨fun i m σ H => m = xs.length - i ∧ i ≤ xs.length ∧ Pv i σ H, ⟨xs.length, by simp, Nat.zero_le _, h0⟩, ?_⟩
  rintro i m σ' H' ⟨rfl, hi, p⟩
  have ql := hl i σ' H' hi p
  by_cases c : i < xs.length
  · refine Or.inr ⟨⟨xs, xs[i], ql, by simp [c]⟩, Pv (i + 1), fun σ2 H2 p2 => ⟨xs.length - (i + 1), by omega, rfl, c, p2⟩, fun v H2 y => ?_⟩
    obtain ⟨t, x, rfl, nt, rfl, e2⟩ := y
    exact hs i x t σ' H' (e2 xs ql) p nt
  · have e : i = xs.length := by omega
    subst e
    exact Or.inl ⟨⟨xs, ql, rfl⟩, hd σ' H' p⟩
/-- .. in a comprehension -/
theorem lc_enumT {K : PySem.W.Frag} {a : Addr} {xs : List V} {gt : TG} {tt : TT} {te : TE} {vs : List Nat} {σ : L2.St} {H1 : Hp} {D : Addr} {Qd : Hp → Prop}
    (Pv : Nat → Hp → Prop) (h0 : Pv 0 (upd H1 D (.lst []))) (hl : ∀ i H, i ≤ xs.length → Pv i H → SqT K H a xs)
    (hs : ∀ (i : Nat) x t H, xs[i]? = some x → Pv i H → H t = none → gt (.ref t) (wipe σ vs) (upd H t (.tup [.int (i : Nat), x])) fun σ2 H2 =>
      wipe σ2 vs = wipe σ vs ∧ tt σ2 H2 fun b H3 => if b = true then te σ2 H3 fun y H4 => ∃ acc, H4 D = some (.lst acc) ∧
        acc.length < sizeLine ∧ Pv (i + 1) (upd H4 D (.lst (acc ++ [y]))) else Pv (i + 1) H3)
    (hd : ∀ H, Pv xs.length H → Qd H) :
    ∃ W : Nat → Nat → Hp → Prop, (∃ m, W 0 m (upd H1 D (.lst []))) ∧ ∀ i m H, W i m H →
      ((IteT K a).stop i H ∧ Qd H) ∨ ((IteT K a).go i H ∧ ∃ Nx : Hp → Prop, (∀ H', Nx H' → ∃ m', m' < m ∧ W (i + 1) m' H') ∧
        ∀ x H', (IteT K a).yld i H x H' → gt x (wipe σ vs) H' fun σ2 H2 => wipe σ2 vs = wipe σ vs ∧ tt σ2 H2 fun b H3 =>
          if b = true then te σ2 H3 fun y H4 => ∃ acc, H4 D = some (.lst acc) ∧ acc.length < sizeLine ∧
            Nx (upd H4 D (.lst (acc ++ [y]))) else Nx H3) := by
  refine ⟨fun i m H => m = xs.length - i ∧ i ≤ xs.length ∧ Pv i H, ⟨xs.length, by simp, Nat.zero_le _, h0⟩, ?_⟩
  rintro i m H ⟨rfl, hi, p⟩
  have ql := hl i H hi p
  by_cases c : i < xs.length
  · refine Or.inr ⟨⟨xs, xs[i], ql, by simp [c]⟩, Pv (i + 1), fun H2 p2 => ⟨xs.length - (i + 1), by omega, rfl, c, p2⟩, fun v H2 y => ?_⟩
    obtain ⟨t, x, rfl, nt, rfl, e2⟩ := y
    exact hs i x t H (e2 xs ql) p nt
  · have e : i = xs.length := by omega
    subst e
    exact Or.inl ⟨⟨xs, ql, rfl⟩, hd H p⟩
end Tw

set_option linter.all false
set_option maxRecDepth 10000
/-! words of a text: codes -/
namespace K53
def isD (c : Nat) : Bool := decide (48 ≤ c ∧ c ≤ 57)
def isS (c : Nat) : Bool := decide (97 ≤ c ∧ c ≤ 122)
def isN (c : Nat) : Bool := isS c || isD c || decide (c = 95)
def isB (c : Nat) : Bool := decide (c = 32 ∨ c = 10)
def notL (c : Nat) : Bool := decide (c ≠ 10)
def isC (c : Nat) : Bool := decide (c = 60 ∨ c = 62 ∨ c = 33)
def run (p : Nat → Bool) : List Nat → Nat
  | [] => 0
  | c :: r => if p c then 1 + run p r else 0
theorem run_le (p : Nat → Bool) : ∀ cs, run p cs ≤ cs.length
  | [] => Nat.le_refl 0
  | c :: r => by
    have := run_le p r
    rw [run, List.length_cons]
    split <;> omega
/-- how many signs the word that begins here has -/
def tokLen : List Nat → Nat
  | [] => 0
  | c :: r => if isD c then 1 + run isD r else if isS c then 1 + run isN r else if isC c && (r.head? == some 61) then 2 else 1
theorem tokLen_pos (c : Nat) (r : List Nat) : 1 ≤ tokLen (c :: r) := by
  rw [tokLen]
  split
  · omega
  · split
    · omega
    · split <;> omega
theorem tokLen_le : ∀ cs, tokLen cs ≤ cs.length
  | [] => Nat.le_refl 0
  | c :: r => by
    have h1 := run_le isD r
    have h2 := run_le isN r
    rw [tokLen]
    rw [List.length_cons]
    split
    · omega
    · split
      · omega
      · split
        · rename_i h
          rw [Bool.and_eq_true] at h
          cases r with
          | nil => simp at h
          | cons d s => simp
        · omega
/-- the words, each with its spot -/
def toks (at_ : Nat) (cs : List Nat) : List (Nat × List Nat) :=
  match cs with
  | [] => []
  | c :: r =>
    if isB c then toks (at_ + 1) r
    else if c = 35 then toks (at_ + 1 + run notL r) (r.drop (run notL r))
    else (at_, (c :: r).take (tokLen (c :: r))) :: toks (at_ + tokLen (c :: r)) ((c :: r).drop (tokLen (c :: r)))
termination_by cs.length
decreasing_by
  · simp
  · simp; omega
  · have := tokLen_pos c r
    simp [List.length_drop]
    omega
theorem toks_nil (at_ : Nat) : toks at_ [] = [] := by rw [toks]
theorem toks_blank {at_ c : Nat} {r : List Nat} (h : isB c = true) : toks at_ (c :: r) = toks (at_ + 1) r := by rw [toks, if_pos h]
theorem toks_remark {at_ : Nat} {r : List Nat} : toks at_ (35 :: r) = toks (at_ + 1 + run notL r) (r.drop (run notL r)) := by
  rw [toks, if_neg (by decide), if_pos rfl]
theorem toks_word {at_ c : Nat} {r : List Nat} (h : isB c = false) (h2 : c ≠ 35) : toks at_ (c :: r) = (at_, (c :: r).take (tokLen (c :: r))) :: toks (at_ + tokLen (c :: r)) ((c :: r).drop (tokLen (c :: r))) := by
  rw [toks, if_neg (by rw [h]; decide), if_neg h2]
/-- moved -/
def mov (k : Nat) (ws : List (Nat × List Nat)) : List (Nat × List Nat) := ws.map fun w => (w.1 + k, w.2)
theorem toks_mov (k : Nat) : ∀ (n : Nat) (cs : List Nat) (at_ : Nat), cs.length ≤ n → toks (at_ + k) cs = mov k (toks at_ cs)
  | 0, cs, at_, h => by
    have : cs = [] := List.eq_nil_of_length_eq_zero (by omega)
    subst this
    rw [toks_nil, toks_nil]
    rfl
  | n + 1, [], at_, h => by
    rw [toks_nil, toks_nil]
    rfl
  | n + 1, c :: r, at_, h => by
    have hr : r.length ≤ n := by rw [List.length_cons] at h; omega
    cases hb : isB c with
    | true => rw [toks_blank hb, toks_blank hb, show at_ + k + 1 = at_ + 1 + k from by omega, toks_mov k n r _ hr]
    | false =>
      by_cases h2 : c = 35
      · subst h2
        rw [toks_remark, toks_remark, show at_ + k + 1 + run notL r = at_ + 1 + run notL r + k from by omega, toks_mov k n _ _ (by rw [List.length_drop]; omega)]
      · have tp := tokLen_pos c r
        rw [toks_word hb h2, toks_word hb h2, show at_ + k + tokLen (c :: r) = at_ + tokLen (c :: r) + k from by omega, toks_mov k n _ _ (by rw [List.length_drop, List.length_cons]; omega)]
        rfl
/-- a run ends where it would end, if what stands behind does not go on -/
theorem run_app {p : Nat → Bool} {d : Nat} {o : List Nat} (h : p d = false) : ∀ t, run p (t ++ d :: o) = run p t
  | [] => by
    show run p (d :: o) = 0
    rw [run, h]
    rfl
  | c :: r => by
    show run p (c :: (r ++ d :: o)) = run p (c :: r)
    rw [run, run, run_app h r]
theorem tokLen_app {d : Nat} {o : List Nat} (hD : isD d = false) (hN : isN d = false) (h61 : d ≠ 61) {c : Nat} (t : List Nat) : tokLen (c :: t ++ d :: o) = tokLen (c :: t) := by
  show tokLen (c :: (t ++ d :: o)) = tokLen (c :: t)
  rw [tokLen, tokLen, run_app hD, run_app hN]
  have : (t ++ d :: o).head? = some 61 ↔ t.head? = some 61 := by
    cases t with
    | nil => simp [h61]
    | cons e s => simp
  have e2 : ((t ++ d :: o).head? == some 61) = (t.head? == some 61) := by
    rw [Bool.eq_iff_iff]
    simpa using this
  rw [e2]
/-- two texts, one on the line behind the other -/
theorem toks_two (o : List Nat) : ∀ (n : Nat) (t : List Nat) (at_ : Nat), t.length ≤ n → toks at_ (t ++ 10 :: o) = toks at_ t ++ toks (at_ + t.length + 1) o
  | 0, t, at_, h => by
    have : t = [] := List.eq_nil_of_length_eq_zero (by omega)
    subst this
    rw [List.nil_append, toks_blank (by decide), toks_nil]
    rfl
  | n + 1, [], at_, h => by
    rw [List.nil_append, toks_blank (by decide), toks_nil]
    rfl
  | n + 1, c :: r, at_, h => by
    have hr : r.length ≤ n := by rw [List.length_cons] at h; omega
    rw [List.cons_append]
    cases hb : isB c with
    | true =>
      rw [toks_blank hb, toks_blank hb, toks_two o n r _ hr]
      congr 2
      rw [List.length_cons]
      omega
    | false =>
      by_cases h2 : c = 35
      · subst h2
        have rl := run_le notL r
        rw [toks_remark, toks_remark, run_app (by decide), List.drop_append_of_le_length rl, toks_two o n _ _ (by rw [List.length_drop]; omega)]
        congr 2
        rw [List.length_drop, List.length_cons]
        omega
      · have tp := tokLen_pos c r
        have tl := tokLen_le (c :: r)
        have ta := tokLen_app (d := 10) (o := o) (by decide) (by decide) (by decide) (c := c) r
        rw [List.cons_append] at ta
        rw [toks_word hb h2, toks_word hb h2, ta, ← List.cons_append, List.take_append_of_le_length tl, List.drop_append_of_le_length tl, toks_two o n _ _ (by rw [List.length_drop, List.length_cons]; omega)]
        rw [List.cons_append]
        congr 3
        rw [List.length_drop]
        omega
/-- a word as it comes out -/
def Word (w : List Nat) : Prop := ∃ c r, w = c :: r ∧ isB c = false ∧ c ≠ 35 ∧ tokLen w = w.length
theorem run_take {p : Nat → Bool} : ∀ cs : List Nat, run p (cs.take (run p cs)) = run p cs
  | [] => rfl
  | c :: r => by
    rw [run]
    cases h : p c with
    | true =>
      rw [if_pos rfl, Nat.add_comm 1, List.take_succ_cons, run, h, if_pos rfl, run_take r, Nat.add_comm]
    | false => rfl
theorem tokLen_take (c : Nat) (r : List Nat) : tokLen ((c :: r).take (tokLen (c :: r))) = tokLen (c :: r) := by
  have key : ∀ k, tokLen (c :: r) = k + 1 → tokLen (c :: r.take k) = k + 1 := fun k hk => by
    rw [tokLen] at hk ⊢
    cases hD : isD c with
    | true =>
      rw [hD, if_pos rfl] at hk
      rw [if_pos rfl, show k = run isD r from by omega, run_take, Nat.add_comm]
    | false =>
      rw [hD, if_neg (by decide)] at hk
      rw [if_neg (by decide)]
      cases hS : isS c with
      | true =>
        rw [hS, if_pos rfl] at hk
        rw [if_pos rfl, show k = run isN r from by omega, run_take, Nat.add_comm]
      | false =>
        rw [hS, if_neg (by decide)] at hk
        rw [if_neg (by decide)]
        cases hC : (isC c && (r.head? == some 61)) with
        | true =>
          rw [hC, if_pos rfl] at hk
          have : k = 1 := by omega
          subst this
          rw [Bool.and_eq_true] at hC
          cases r with
          | nil => simp at hC
          | cons d s =>
            have : d = 61 := by simpa using hC.2
            subst this
            show (if (isC c && ((61 :: s.take 0).head? == some 61)) = true then 2 else 1) = 2
            rw [hC.1]
            rfl
        | false =>
          rw [hC, if_neg (by decide)] at hk
          have : k = 0 := by omega
          subst this
          show (if (isC c && (([] : List Nat).head? == some 61)) = true then 2 else 1) = 1
          rw [show (([] : List Nat).head? == some 61) = false from rfl, Bool.and_false]
          rfl
  obtain ⟨k, hk⟩ : ∃ k, tokLen (c :: r) = k + 1 := ⟨tokLen (c :: r) - 1, by have := tokLen_pos c r; omega⟩
  rw [hk, List.take_succ_cons]
  exact key k hk
theorem word_of {c : Nat} {r : List Nat} (hb : isB c = false) (h2 : c ≠ 35) : Word ((c :: r).take (tokLen (c :: r))) := by
  have tl := tokLen_le (c :: r)
  obtain ⟨k, hk⟩ : ∃ k, tokLen (c :: r) = k + 1 := ⟨tokLen (c :: r) - 1, by have := tokLen_pos c r; omega⟩
  refine ⟨c, r.take k, by rw [hk, List.take_succ_cons], hb, h2, ?_⟩
  rw [tokLen_take, List.length_take]
  omega
theorem toks_words : ∀ (n : Nat) (cs : List Nat) (at_ : Nat), cs.length ≤ n → ∀ w ∈ toks at_ cs, Word w.2
  | 0, cs, at_, h => by
    have : cs = [] := List.eq_nil_of_length_eq_zero (by omega)
    subst this
    rw [toks_nil]
    exact fun w hw => by cases hw
  | n + 1, [], at_, h => by
    rw [toks_nil]
    exact fun w hw => by cases hw
  | n + 1, c :: r, at_, h => by
    have hr : r.length ≤ n := by rw [List.length_cons] at h; omega
    cases hb : isB c with
    | true => rw [toks_blank hb]; exact toks_words n r _ hr
    | false =>
      by_cases h2 : c = 35
      · subst h2
        rw [toks_remark]
        exact toks_words n _ _ (by rw [List.length_drop]; omega)
      · have tp := tokLen_pos c r
        rw [toks_word hb h2]
        intro w hw
        rcases List.mem_cons.mp hw with rfl | hw
        · exact word_of hb h2
        · exact toks_words n _ _ (by rw [List.length_drop, List.length_cons]; omega) w hw
/-- words with a blank between each two -/
def joinB : List (List Nat) → List Nat
  | [] => []
  | [p] => p
  | p :: q :: r => p ++ (32 :: joinB (q :: r))
/-- .. and where they stand -/
def spots : Nat → List (List Nat) → List (Nat × List Nat)
  | _, [] => []
  | k, p :: r => (k, p) :: spots (k + p.length + 1) r
theorem toks_single {w : List Nat} (h : Word w) (at_ : Nat) : toks at_ w = [(at_, w)] := by
  obtain ⟨c, r, rfl, hb, h2, ht⟩ := h
  rw [toks_word hb h2, ht, List.take_length, List.drop_length, toks_nil]
theorem toks_join : ∀ (ws : List (List Nat)) (at_ : Nat), (∀ w ∈ ws, Word w) → toks at_ (joinB ws) = spots at_ ws
  | [], at_, _ => by rw [joinB, toks_nil]; rfl
  | [p], at_, h => by rw [joinB, toks_single (h p (by simp))]; rfl
  | p :: q :: r, at_, h => by
    have hw := h p (by simp)
    have ih := toks_join (q :: r) (at_ + p.length + 1) fun w hw => h w (List.mem_cons_of_mem _ hw)
    obtain ⟨c, s, rfl, hb, h2, ht⟩ := hw
    have ta := tokLen_app (d := 32) (o := joinB (q :: r)) (by decide) (by decide) (by decide) (c := c) s
    rw [joinB, spots, List.cons_append, toks_word hb h2, ← List.cons_append, ta, ht, List.take_append_of_le_length (Nat.le_refl _), List.take_length, List.drop_append_of_le_length (Nat.le_refl _), List.drop_length, List.nil_append, toks_blank (by decide), ih]
end K53

set_option Elab.async false
set_option linter.all false
set_option maxRecDepth 100000
set_option maxHeartbeats 4000000
local macro_rules | `(tactic| walk_at "rd") => `(tactic| dsimp only [Evl.tCut, L2.tSeq, L2.tNext, L2.tRet, L2.tRetN, L2.tAsg, L2.gName, L2.tIfS, L2.tDrop, L2.tCons, L2.tNil, L2.tC, L2.tVar, L2.tCB, L2.tAndV, L2.tOrV, L2.tNotV, L2.tB, L2.tTest, L2.tOp, L2.tUn, L2.tNot, L2.tAnd, L2.tOr, L2.tIf, L2.tCall, L2.tTup, L2.tLst, L2.tNotT, L2.tYes, L2.gTup, L2.gCons, L2.gNil, L2.gSub, L2.tBM0, L2.tBM, L2.tWhile, L2.tFor, L2.iRng1, L2.iRng2, L2.tAugS, Tw.iEnumT, L2.tCKw, L2.tAug, L2.ipI, RT.iRevA, L2.tPar, L2.tPar3, L2.tSl, L2.tNoPart, L2.tPart, Tw.tRevT])
namespace K53
open PySem PySem.Spec PyProof.Rows L2 Tw
def top (i : Nat) : Stmt := PySem.Challenge.pw_twoletters_k53_whole_words_and_spots.main.body.getD i (.Pass ⟨0, 0, 0, 0⟩)
abbrev sRun : Stmt := top 10
abbrev sRemark : Stmt := top 11
abbrev sWord : Stmt := top 12
abbrev sWords : Stmt := top 13
abbrev sFree : Stmt := top 14
abbrev sWell : Stmt := top 16
abbrev sDraw : Stmt := top 17
abbrev sPick : Stmt := top 18
abbrev sKept : Stmt := top 19
abbrev sName : Stmt := top 20
abbrev sPiece : Stmt := top 21
abbrev sScan : Stmt := top 22
abbrev sIsName : Stmt := top 23
abbrev sSpotOf : Stmt := top 24
abbrev sText : Stmt := top 25
abbrev sRight : Stmt := top 26
abbrev sLaw : Stmt := top 27
/-- built-in names that the text gives no other meaning -/
structure Nb (mg : Str → Option Value) : Prop where
  isi : mg "isinstance" = none
  str : mg "str" = none
  int : mg "int" = none
  tup : mg "tuple" = none
  all : mg "all" = none
  len : mg "len" = none
  lst : mg "list" = none
  dvm : mg "divmod" = none
  rng : mg "range" = none
  abs : mg "abs" = none
  repr : mg "repr" = none
/-- the text's own constants -/
structure Cs (K : PySem.W.Frag) (mg : Str → Option Value) : Prop where
  dig : ∃ t, mg "DIGITS" = some (.str "0123456789" t)
  sml : ∃ t, mg "SMALL" = some (.str "abcdefghijklmnopqrstuvwxyz" t)
  inn : ∃ t, mg "IN_NAMES" = some (.str "abcdefghijklmnopqrstuvwxyz0123456789_" t)
  lng : ∃ t, mg "LONGEST_NAME" = some (.int 24 t)
  prs : ∃ p, mg "PAIRS" = some (.ref p) ∧ ∀ H : Hp, SqT K H p [.str "<=", .str ">=", .str "!="]
  kpt : ∃ p, mg "KEPT" = some (.ref p) ∧ ∀ H : Hp, SqT K H p [.str "x", .str "y", .str "true", .str "false", .str "not", .str "all", .str "some", .str "let"]
/-- the codes of a text -/
abbrev cd (z : Str) : List Nat := z.cps.toList
theorem cd_len (z : Str) : (cd z).length = z.length := Array.length_toList
theorem dig_eq (c : Nat) : decide (c ∈ cd "0123456789") = isD c := by
  rw [show cd "0123456789" = [48, 49, 50, 51, 52, 53, 54, 55, 56, 57] from by decide]
  unfold isD
  rw [decide_eq_decide]
  simp only [List.mem_cons, List.not_mem_nil, or_false]
  omega
theorem sml_eq (c : Nat) : decide (c ∈ cd "abcdefghijklmnopqrstuvwxyz") = isS c := by
  rw [show cd "abcdefghijklmnopqrstuvwxyz" = [97, 98, 99, 100, 101, 102, 103, 104, 105, 106, 107, 108, 109, 110, 111, 112, 113, 114, 115, 116, 117, 118, 119, 120, 121, 122] from by decide]
  unfold isS
  rw [decide_eq_decide]
  simp only [List.mem_cons, List.not_mem_nil, or_false]
  omega
theorem inn_eq (c : Nat) : decide (c ∈ cd "abcdefghijklmnopqrstuvwxyz0123456789_") = isN c := by
  rw [show cd "abcdefghijklmnopqrstuvwxyz0123456789_" = [97, 98, 99, 100, 101, 102, 103, 104, 105, 106, 107, 108, 109, 110, 111, 112, 113, 114, 115, 116, 117, 118, 119, 120, 121, 122, 48, 49, 50, 51, 52, 53, 54, 55, 56, 57, 95] from by decide]
  unfold isN isS isD
  rw [← Bool.decide_or, ← Bool.decide_or, decide_eq_decide]
  simp only [List.mem_cons, List.not_mem_nil, or_false]
  omega
theorem bl_eq (c : Nat) : decide (c ∈ cd " \n") = isB c := by
  rw [show cd " \n" = [32, 10] from by decide]
  unfold isB
  rw [decide_eq_decide]
  simp only [List.mem_cons, List.not_mem_nil, or_false]
theorem str_ext {a b : Str} (h : cd a = cd b) : a = b := by
  cases a
  cases b
  exact congrArg _ (Array.toList_inj.mp h)
theorem one_eq (c d : Nat) (z : Str) (h : cd z = [d]) : decide (V.str ⟨#[c]⟩ = V.str z) = decide (c = d) := by
  rw [decide_eq_decide]
  constructor
  · intro e
    have := congrArg cd (V.str.inj e)
    rw [h] at this
    have t2 : [c] = [d] := this
    exact List.head_eq_of_cons_eq t2
  · intro e
    subst e
    exact congrArg V.str (str_ext (by rw [h]))
theorem run_at {p : Nat → Bool} {cs : List Nat} : ∀ (n i k : Nat), k - i ≤ n → i ≤ k → k ≤ cs.length → (∀ v, i ≤ v → v < k → p (cs.getD v 0) = true) → (k = cs.length ∨ p (cs.getD k 0) = false) → run p (cs.drop i) = k - i
  | n, i, k, hn, hik, hk, ha, he => by
    rcases Nat.lt_or_ge i k with c | c
    · have il : i < cs.length := by omega
      have h1 := ha i (Nat.le_refl _) c
      rw [List.getD_eq_getElem?_getD, List.getElem?_eq_getElem il] at h1
      have h1' : p cs[i] = true := h1
      rw [List.drop_eq_getElem_cons il, run, h1', if_pos rfl]
      cases n with
      | zero => omega
      | succ n => rw [run_at n (i + 1) k (by omega) (by omega) hk (fun v a b => ha v (by omega) b) he]; omega
    · have e : i = k := by omega
      subst e
      rw [Nat.sub_self]
      rcases he with he | he
      · rw [he, List.drop_length]; rfl
      · rcases Nat.lt_or_ge i cs.length with d | d
        · rw [List.getD_eq_getElem?_getD, List.getElem?_eq_getElem d] at he
          have he' : p cs[i] = false := he
          rw [List.drop_eq_getElem_cons d, run, he']
          rfl
        · rw [List.drop_of_length_le d]; rfl
theorem from_nat {n i : Nat} (h : i ≤ n) : PySem.fromIndex n (i : Int) = i := by
  unfold PySem.fromIndex
  omega
end K53

set_option Elab.async false
set_option linter.all false
set_option maxRecDepth 100000
set_option maxHeartbeats 4000000
local macro_rules | `(tactic| walk_at "rd") => `(tactic| dsimp only [Evl.tCut, L2.tSeq, L2.tNext, L2.tRet, L2.tRetN, L2.tAsg, L2.gName, L2.tIfS, L2.tDrop, L2.tCons, L2.tNil, L2.tC, L2.tVar, L2.tCB, L2.tAndV, L2.tOrV, L2.tNotV, L2.tB, L2.tTest, L2.tOp, L2.tUn, L2.tNot, L2.tAnd, L2.tOr, L2.tIf, L2.tCall, L2.tTup, L2.tLst, L2.tNotT, L2.tYes, L2.gTup, L2.gCons, L2.gNil, L2.gSub, L2.tBM0, L2.tBM, L2.tWhile, L2.tFor, L2.iRng1, L2.iRng2, L2.tAugS, Tw.iEnumT, L2.tCKw, L2.tAug, L2.ipI, RT.iRevA, L2.tPar, L2.tPar3, L2.tSl, L2.tNoPart, L2.tPart, Tw.tRevT])
namespace K53
open PySem PySem.Spec PyProof.Rows L2 Tw
/-- tuples are kept -/
def Kt (H H' : Hp) : Prop := ∀ b xs, H b = some (.tup xs) → H' b = some (.tup xs)
theorem Kt.of {H H' : Hp} (s : Same H H') : Kt H H' := fun b xs e => s b _ e
theorem Kt.trans {H H1 H2 : Hp} (x : Kt H H1) (y : Kt H1 H2) : Kt H H2 := fun b xs e => y b xs (x b xs e)
theorem kt_kp {a : Addr} {H H' : Hp} (w : We a H) (k : Kp a H H') : Kt H H' := fun b xs e => k b _ (fun z => by
  obtain ⟨x, y, c, h⟩ := w
  rw [z, h] at e; cases e) e
theorem kt_upd {L : Addr} {H : Hp} {ys : List V} {o : HO} (h : H L = some (.lst ys)) : Kt H (upd H L o) := fun b xs e => by
  rw [upd_ne (fun z => by rw [z, h] at e; cases e)]; exact e
/-! lists of values that stand for things -/
section
variable {α β : Type}
def RelA (R : Hp → V → α → Prop) (H : Hp) (xs : List V) (rs : List α) : Prop := xs.length = rs.length ∧ ∀ (i : Nat) v, xs[i]? = some v → ∃ r, rs[i]? = some r ∧ R H v r
def Stable (R : Hp → V → α → Prop) : Prop := ∀ H H' v r, Kt H H' → R H v r → R H' v r
theorem RelA.kt {R : Hp → V → α → Prop} (st : Stable R) {H H' : Hp} {xs : List V} {rs : List α} (k : Kt H H') (h : RelA R H xs rs) : RelA R H' xs rs :=
  ⟨h.1, fun i v e => let ⟨r, e1, e2⟩ := h.2 i v e; ⟨r, e1, st _ _ _ _ k e2⟩⟩
theorem RelA.snoc {R : Hp → V → α → Prop} {H : Hp} {xs : List V} {rs : List α} {v : V} {r : α} (h : RelA R H xs rs) (g : R H v r) : RelA R H (xs ++ [v]) (rs ++ [r]) := by
  obtain ⟨h1, h2⟩ := h
  refine ⟨by simp [h1], fun i u e => ?_⟩
  rcases Nat.lt_trichotomy i xs.length with c | c | c
  · rw [List.getElem?_append_left c] at e
    obtain ⟨r', e1, e2⟩ := h2 i u e
    exact ⟨r', by rw [List.getElem?_append_left (by omega)]; exact e1, e2⟩
  · subst c
    rw [List.getElem?_append_right (Nat.le_refl _), Nat.sub_self] at e
    cases e
    refine ⟨r, ?_, g⟩
    rw [h1, List.getElem?_append_right (Nat.le_refl _), Nat.sub_self]
    rfl
  · rw [List.getElem?_eq_none (by simp; omega)] at e
    cases e
theorem RelA.eq_map {f : α → V} {H : Hp} : ∀ {xs : List V} {rs : List α}, RelA (fun _ v r => v = f r) H xs rs → xs = rs.map f
  | [], [], _ => rfl
  | [], r :: rs, h => by have := h.1; simp at this
  | x :: xs, [], h => by have := h.1; simp at this
  | x :: xs, r :: rs, h => by
    obtain ⟨r', e1, e2⟩ := h.2 0 x rfl
    cases e1
    rw [List.map_cons, e2, RelA.eq_map (rs := rs) (xs := xs) (H := H) ⟨by have := h.1; simpa using this, fun i v e => by
      obtain ⟨r', e1, e2⟩ := h.2 (i + 1) v (by simpa using e)
      exact ⟨r', by simpa using e1, e2⟩⟩]
theorem RelA.of_map {f : α → V} {H : Hp} (rs : List α) : RelA (fun _ v r => v = f r) H (rs.map f) rs := ⟨by simp, fun i v e => by
  rw [List.getElem?_map] at e
  cases er : rs[i]? with
  | none => rw [er] at e; cases e
  | some r => rw [er] at e; cases e; exact ⟨r, rfl, rfl⟩⟩
theorem RelA.map {R : Hp → V → α → Prop} {H : Hp} {xs : List V} {rs : List α} (g : α → β) (S : Hp → V → β → Prop) (k : ∀ v r, r ∈ rs → R H v r → S H v (g r)) (h : RelA R H xs rs) : RelA S H xs (rs.map g) :=
  ⟨by rw [List.length_map]; exact h.1, fun i v e => by
    obtain ⟨r, e1, e2⟩ := h.2 i v e
    exact ⟨g r, by rw [List.getElem?_map, e1]; rfl, k v r (List.mem_of_getElem? e1) e2⟩⟩
theorem stable_eq (f : α → V) : Stable (fun _ v r => v = f r) := fun _ _ _ _ _ h => h
variable {K : PySem.W.Frag} {te : TE} {i j : Nat} {elt : TE} {vs : List Nat} {σ : L2.St} {H : Hp} {Q : VK} {p : Addr} {xs : List V} {rs : List α} {S : Hp → V → α → Prop} {R : Hp → V → β → Prop} {g : α → β}
theorem rel_step {H1 H2 : Hp} {D : Addr} {m : Nat} {ys : List V} {y : V} {r : α} (sR : Stable R) (nD : H D = none) (hD : H1 D = some (.lst ys)) (s1 : Same H H1) (s2 : Same H1 H2) (er : rs[m]? = some r) (hr : RelA R H1 ys ((rs.take m).map g)) (hy : R H2 y (g r)) :
    H2 D = some (.lst ys) ∧ ys.length = m ∧ Same H (upd H2 D (.lst (ys ++ [y]))) ∧ upd H2 D (.lst (ys ++ [y])) D = some (.lst (ys ++ [y])) ∧ RelA R (upd H2 D (.lst (ys ++ [y]))) (ys ++ [y]) ((rs.take (m + 1)).map g) := by
  have e2 : H2 D = some (.lst ys) := s2 _ _ hD
  have hm : m < rs.length := (List.getElem?_eq_some_iff.mp er).1
  refine ⟨e2, ?_, same_upd (s1.trans s2) nD, upd_same, ?_⟩
  · rw [hr.1, List.length_map, List.length_take]; omega
  · rw [List.take_add_one, er, List.map_append]
    exact ((hr.kt sR (Kt.of s2)).snoc hy).kt sR (kt_upd e2)
/-- [.. for x in t], t a tuple of things -/
theorem lc_relT (sS : Stable S) (sR : Stable R) (hv : σ[i]? = some (some (.ref p))) (ht : H p = some (.tup xs)) (hd : RelA S H xs rs) (hn : rs.length < 100000)
    (hw : ∀ x, wipe ((wipe σ vs).set j (some x)) vs = wipe σ vs)
    (he : ∀ x r H1, r ∈ rs → Same H H1 → S H1 x r → ∀ Z : VK, (∀ y H2, Same H1 H2 → R H2 y (g r) → Z y H2) → elt ((wipe σ vs).set j (some x)) H1 Z)
    (q : ∀ D ys H', Same H H' → H D = none → H' D = some (.lst ys) → RelA R H' ys (rs.map g) → Q (.ref D) H') : tLc (iTup K (tVar i)) (gName j) tYes elt vs σ H Q := by
  refine ⟨.ref p, hv, p, rfl, ⟨xs, SqT.of ht⟩, fun D hD => ?_⟩
  refine lc_tup (xs := xs) (fun m H' => Same H H' ∧ ∃ ys, H' D = some (.lst ys) ∧ RelA R H' ys ((rs.take m).map g)) ⟨same_new hD, [], upd_same, rfl, fun i v e => by simp at e⟩ (fun m H' _ h => SqT.of (h.1 _ _ ht)) (fun m x H1 hx h => ?_) (fun H' h => ?_)
  · obtain ⟨h1, ys, h2, h3⟩ := h
    obtain ⟨r, e1, e2⟩ := hd.2 m x hx
    have hm : m < xs.length := (List.getElem?_eq_some_iff.mp hx).1
    have hx2 := hd.1
    refine ⟨hw x, ?_⟩
    unfold tYes
    simp only [if_true]
    refine he x r H1 (List.mem_of_getElem? e1) h1 (sS _ _ _ _ (Kt.of h1) e2) _ fun y H2 s2 ry => ?_
    obtain ⟨a1, a2, a3, a4, a5⟩ := rel_step sR hD h2 h1 s2 e1 h3 ry
    exact ⟨ys, a1, lt_line (by omega), a3, _, a4, a5⟩
  · obtain ⟨h1, ys, h2, h3⟩ := h
    rw [hd.1, List.take_length] at h3
    exact q D ys H' h1 hD h2 h3
/-- .. t a list -/
theorem lc_relL (sS : Stable S) (sR : Stable R) (hv : σ[i]? = some (some (.ref p))) (ht : H p = some (.lst xs)) (hd : RelA S H xs rs) (hn : rs.length < 100000)
    (hw : ∀ x, wipe ((wipe σ vs).set j (some x)) vs = wipe σ vs)
    (he : ∀ x r H1, r ∈ rs → Same H H1 → S H1 x r → ∀ Z : VK, (∀ y H2, Same H1 H2 → R H2 y (g r) → Z y H2) → elt ((wipe σ vs).set j (some x)) H1 Z)
    (q : ∀ D ys H', Same H H' → H D = none → H' D = some (.lst ys) → RelA R H' ys (rs.map g) → Q (.ref D) H') : tLc (iList K (tVar i)) (gName j) tYes elt vs σ H Q := by
  refine ⟨.ref p, hv, p, rfl, ⟨xs, SqL.of ht⟩, fun D hD => ?_⟩
  refine lc_list (xs := xs) (fun m H' => Same H H' ∧ ∃ ys, H' D = some (.lst ys) ∧ RelA R H' ys ((rs.take m).map g)) ⟨same_new hD, [], upd_same, rfl, fun i v e => by simp at e⟩ (fun m H' _ h => SqL.of (h.1 _ _ ht)) (fun m x H1 hx h => ?_) (fun H' h => ?_)
  · obtain ⟨h1, ys, h2, h3⟩ := h
    obtain ⟨r, e1, e2⟩ := hd.2 m x hx
    have hm : m < xs.length := (List.getElem?_eq_some_iff.mp hx).1
    have hx2 := hd.1
    refine ⟨hw x, ?_⟩
    unfold tYes
    simp only [if_true]
    refine he x r H1 (List.mem_of_getElem? e1) h1 (sS _ _ _ _ (Kt.of h1) e2) _ fun y H2 s2 ry => ?_
    obtain ⟨a1, a2, a3, a4, a5⟩ := rel_step sR hD h2 h1 s2 e1 h3 ry
    exact ⟨ys, a1, lt_line (by omega), a3, _, a4, a5⟩
  · obtain ⟨h1, ys, h2, h3⟩ := h
    rw [hd.1, List.take_length] at h3
    exact q D ys H' h1 hD h2 h3
end
theorem wipeJ (σ : L2.St) (j : Nat) (x : Option V) : wipe ((wipe σ [j]).set j x) [j] = wipe σ [j] := by
  show ((σ.set j none).set j x).set j none = σ.set j none
  rw [List.set_set, List.set_set]
/-- a loop over a tuple, its body already read -/
theorem for_tup {K : PySem.W.Frag} {a : Addr} {xs : List V} {B : (L2.St → Hp → Prop) → V → L2.St → Hp → Prop} {nx : L2.St → Hp → Prop} {σ : L2.St} {H : Hp} (Pv : Nat → L2.St → Hp → Prop) (h0 : Pv 0 σ H)
    (hl : ∀ i σ' H', i ≤ xs.length → Pv i σ' H' → SqT K H' a xs)
    (hs : ∀ (i : Nat) x σ' H', xs[i]? = some x → Pv i σ' H' → B (Pv (i + 1)) x σ' H') (hd : ∀ σ' H', Pv xs.length σ' H' → nx σ' H') :
    ∃ W : Nat → Nat → L2.St → Hp → Prop, (∃ m, W 0 m σ H) ∧ ∀ i m σ H, W i m σ H →
      ((Itt K a).stop i H ∧ nx σ H) ∨ ((Itt K a).go i H ∧ ∃ N : L2.St → Hp → Prop, (∀ σ' H', N σ' H' → ∃ m', m' < m ∧ W (i + 1) m' σ' H') ∧ ∀ x H', (Itt K a).yld i H x H' → B N x σ H') := by
  refine ⟨fun i m σ H => m = xs.length - i ∧ i ≤ xs.length ∧ Pv i σ H, ⟨xs.length, by simp, Nat.zero_le _, h0⟩, ?_⟩
  rintro i m σ' H' ⟨rfl, hi, p⟩
  have ql := hl i σ' H' hi p
  by_cases c : i < xs.length
  · refine Or.inr ⟨⟨xs, xs[i], ql, by simp [c]⟩, Pv (i + 1), fun σ2 H2 p2 => ⟨xs.length - (i + 1), by omega, rfl, c, p2⟩, fun x H2 y => ?_⟩
    obtain ⟨e1, e2⟩ := y
    subst e1
    exact hs i x σ' _ (e2 xs ql) p
  · have e : i = xs.length := by omega
    subst e
    exact Or.inl ⟨⟨xs, ql, Nat.le_refl _⟩, hd σ' H' p⟩
/-- a word and its spot in memory -/
def W2 (H : Hp) (v : V) (w : Nat × List Nat) : Prop := ∃ p, v = .ref p ∧ H p = some (.tup [.int (w.1 : Int), .str ⟨w.2.toArray⟩])
theorem stable_w2 : Stable W2 := fun _ _ _ _ k ⟨p, e, f⟩ => ⟨p, e, k _ _ f⟩
theorem cut_codes {z : Str} {i k : Nat} (hik : i ≤ k) (hk : k ≤ z.length) : cutS z (some (i : Int)) (some (k : Int)) = ⟨(((cd z).drop i).take (k - i)).toArray⟩ := by
  unfold cutS
  rw [HT.sIx_nat, HT.sIx_nat, Nat.min_eq_left hk, Nat.min_eq_left (Nat.le_trans hik hk)]
theorem find_end {z : Str} {i : Nat} (hi : i ≤ z.length) : (if Txt.find3 z "\n" (i : Int) < 0 then (z.length : Int) else Txt.find3 z "\n" (i : Int)) = ((i + run notL ((cd z).drop i) : Nat) : Int) := by
  have l := cd_len z
  have gd : ∀ v, z.cps.getD v 0 = (cd z).getD v 0 := fun v => by
    rw [Array.getD_eq_getD_getElem?, List.getD_eq_getElem?_getD, Array.getElem?_toList]
  rcases PySem.StrLaws.find3_spec z 10 (i : Int) with ⟨e, h⟩ | ⟨k, e, h1, h2, h3, h4⟩
  · rw [from_nat hi] at h
    have r := run_at (p := notL) (cs := cd z) ((cd z).length - i) i (cd z).length (Nat.le_refl _) (by omega) (Nat.le_refl _) (fun v a b => by
      have := h v a (by omega)
      rw [gd] at this
      unfold notL
      exact decide_eq_true this) (.inl rfl)
    rw [show Txt.find3 z "\n" (i : Int) = -1 from e, if_pos (by decide), r]
    omega
  · rw [from_nat hi] at h1 h4
    have r := run_at (p := notL) (cs := cd z) (k - i) i k (Nat.le_refl _) h1 (by omega) (fun v a b => by
      have := h4 v a b
      rw [gd] at this
      unfold notL
      exact decide_eq_true this) (.inr (by
      rw [gd] at h3
      unfold notL
      rw [h3]
      rfl))
    rw [show Txt.find3 z "\n" (i : Int) = (k : Int) from e, if_neg (by omega), r]
    omega
theorem pair_eq (z : Str) : inV (.str z) [.str "<=", .str ">=", .str "!="] = (decide (cd z = [60, 61]) || decide (cd z = [62, 61]) || decide (cd z = [33, 61])) := by
  have one : ∀ s : Str, eqV (.str s) (.str z) = decide (cd z = cd s) := fun s => by
    show (s == z) = _
    rw [Bool.eq_iff_iff]
    simp only [beq_iff_eq, decide_eq_true_eq]
    exact ⟨fun e => by rw [e], fun e => str_ext e.symm⟩
  unfold inV
  rw [List.any_cons, List.any_cons, List.any_cons, List.any_nil, one, one, one, Bool.or_false, show cd "<=" = [60, 61] from by decide, show cd ">=" = [62, 61] from by decide, show cd "!=" = [33, 61] from by decide, Bool.or_assoc]
theorem two_take {c : Nat} {r : List Nat} : (decide ((c :: r).take 2 = [60, 61]) || decide ((c :: r).take 2 = [62, 61]) || decide ((c :: r).take 2 = [33, 61])) = (isC c && (r.head? == some 61)) := by
  cases r with
  | nil => simp
  | cons d s =>
    unfold isC
    rw [Bool.eq_iff_iff]
    simp
    omega
def spRun : Sp := fun vs H Q _ => ∃ (z sg : Str) (i : Nat), vs = [.str z, .int (i : Int), .str sg] ∧ z.length ≤ 100000 ∧ i ≤ z.length ∧ ∀ H', Same H H' → Q (.int ((i + run (fun c => decide (c ∈ cd sg)) ((cd z).drop i) : Nat) : Int)) H'
def spRem : Sp := fun vs H Q _ => ∃ (z : Str) (i : Nat), vs = [.str z, .int (i : Int)] ∧ z.length ≤ 100000 ∧ i ≤ z.length ∧ ∀ H', Same H H' → Q (.int ((i + run notL ((cd z).drop i) : Nat) : Int)) H'
def spWord : Sp := fun vs H Q _ => ∃ (z : Str) (i : Nat), vs = [.str z, .int (i : Int)] ∧ z.length ≤ 100000 ∧ i < z.length ∧ ∀ H', Same H H' → Q (.int ((i + tokLen ((cd z).drop i) : Nat) : Int)) H'
def spWords : Sp := fun vs H Q _ => ∃ (z : Str), vs = [.str z] ∧ z.length < 90000 ∧ ∀ p xs H', Same H H' → H' p = some (.tup xs) → RelA W2 H' xs (toks 0 (cd z)) → Q (.ref p) H'
section
variable {P : Program} {w : World} {K : PySem.W.Frag} {mg : Str → Option Value} {base : Heap}
theorem scRun : FnScope ["text", "at", "signs"] ["text", "at", "signs"] (defScope sRun) := ⟨rfl, rfl, rfl, by decide +kernel, rfl, by decide +kernel, by decide +kernel⟩
theorem ok_run (D : Def K mg "end_of_run" sRun ["text", "at", "signs"]) (nb : Nb mg) : Cal P w K mg base "end_of_run" 1 ["text", "at", "signs"] spRun := by
  refine D.ok scRun (fun vs H Q E h => ?_) (fun f cdv A out s H vs Q E hr h => ?_)
  · obtain ⟨z, sg, i, rfl, _⟩ := h; rfl
  obtain ⟨z, sg, i, rfl, zl, il, q⟩ := h
  refine ⟨_, pss_cons (ps_while PassesOwn.never (PW.pt (pw_and (pt_cmpR op_lt (pv 1) (pe_callB (id := "len") call_len_str (by rfl) nb.len PySem.boot_len (pa_cons (pv 0) pa_nil)) (nomark _)) (pw_and1 (pt_cmpR op_in_sign (pe_ix ix_str (pv 0) (pv 1) (fun _ _ => rfl)) (pv 2) (by rfl)))))
      (pss_one (ps_aug (i := 1) scRun.nd rfl (Or.inl rfl) pe_int ip_add)))
    (pss_one (ps_ret (pv 1))), ?_⟩
  walk_at "rd"
  have l := cd_len z
  have zs := sz zl
  refine ⟨fun m σ H' => ∃ k : Nat, i ≤ k ∧ k ≤ z.length ∧ m = z.length - k ∧ σ = [some (.str z), some (.int (k : Int)), some (.str sg)] ∧ H' = H ∧ k + run (fun c => decide (c ∈ cd sg)) ((cd z).drop k) = i + run (fun c => decide (c ∈ cd sg)) ((cd z).drop i), ⟨z.length - i, i, Nat.le_refl _, il, rfl, rfl, rfl, rfl⟩, ?_⟩
  rintro m σ H1 ⟨k, ik, kl, rfl, rfl, rfl, e⟩
  refine ⟨.int k, rfl, .str z, rfl, z, rfl, zs, _, _, rfl, rfl, _, rfl, ite2 (fun c => ?_) (fun c => ?_)⟩
  · have c := of_decide_eq_true c
    have kz : k < (cd z).length := by omega
    have dk := List.drop_eq_getElem_cons kz
    refine ⟨.str z, rfl, .int k, rfl, z, k, (cd z)[k], rfl, rfl, zs, atI_nat (List.getElem?_eq_getElem kz), .str sg, rfl, _, sg, rfl, rfl, _, rfl, ?_⟩
    rw [dk, run] at e
    cases hc : decide ((cd z)[k] ∈ cd sg) with
    | true =>
      rw [hc, if_pos rfl] at e
      refine iteT ⟨fun σ' H' => σ' = [some (.str z), some (.int ((k + 1 : Nat) : Int)), some (.str sg)] ∧ H' = H1, fun σ' H' h => ⟨z.length - (k + 1), by omega, k + 1, by omega, by omega, rfl, h.1, h.2, by omega⟩, .int k, rfl, _, _, rfl, rfl, ?_, rfl⟩
      rfl
    | false =>
      rw [hc, if_neg (by decide)] at e
      rw [Nat.add_zero] at e
      have t := q _ (Same.refl _)
      rw [← e] at t
      exact iteF ⟨_, rfl, t⟩
  · have c' : ¬ ((k : Int) < (z.length : Int)) := fun z => c (decide_eq_true z)
    have ek : k = (cd z).length := by omega
    have e0 : run (fun c => decide (c ∈ cd sg)) ((cd z).drop k) = 0 := by
      rw [ek, List.drop_length]
      rfl
    rw [e0, Nat.add_zero] at e
    have t := q _ (Same.refl _)
    rw [← e] at t
    exact ⟨_, rfl, t⟩
theorem scRemark : FnScope ["text", "at", "found"] ["text", "at"] (defScope sRemark) := ⟨rfl, rfl, rfl, by decide +kernel, rfl, by decide +kernel, by decide +kernel⟩
theorem ok_remark (D : Def K mg "end_of_remark" sRemark ["text", "at"]) (nb : Nb mg) : Cal P w K mg base "end_of_remark" 1 ["text", "at"] spRem := by
  refine D.ok scRemark (fun vs H Q E h => ?_) (fun f cdv A out s H vs Q E hr h => ?_)
  · obtain ⟨z, i, rfl, _⟩ := h; rfl
  obtain ⟨z, i, rfl, zl, il, q⟩ := h
  refine ⟨_, pss_cons (ps_set (i := 2) scRemark.nd rfl (Or.inl rfl) (pe_bm PySem.F.plainAttrs_str PySem.F.slot_str_find PySem.F.type_str_find mt_find3 (pv 0) (pa_cons pe_str (pa_cons (pv 1) pa_nil))))
    (pss_one (ps_ret (pe_ifExp (pt_cmpR op_lt (pv 2) pe_int (nomark _)) (pe_callB (id := "len") call_len_str (by rfl) nb.len PySem.boot_len (pa_cons (pv 0) pa_nil)) (pv 2)))), ?_⟩
  walk_at "rd"
  have zs := sz zl
  have fe := find_end il
  refine ⟨.str z, rfl, rfl, .int i, rfl, z, _, _, rfl, rfl, .int _, rfl, _, _, rfl, rfl, _, rfl, ite2 (fun c => ?_) (fun c => ?_)⟩
  · rw [if_pos (of_decide_eq_true c)] at fe
    refine ⟨.str z, rfl, z, rfl, zs, ?_⟩
    rw [fe]
    exact q _ (Same.refl _)
  · rw [if_neg (fun z => c (decide_eq_true z))] at fe
    refine ⟨_, rfl, ?_⟩
    rw [fe]
    exact q _ (Same.refl _)
end
end K53

set_option Elab.async false
set_option linter.all false
set_option maxRecDepth 100000
set_option maxHeartbeats 8000000
local macro_rules | `(tactic| walk_at "rd") => `(tactic| dsimp only [Evl.tCut, L2.tSeq, L2.tNext, L2.tRet, L2.tRetN, L2.tAsg, L2.gName, L2.tIfS, L2.tDrop, L2.tCons, L2.tNil, L2.tC, L2.tVar, L2.tCB, L2.tAndV, L2.tOrV, L2.tNotV, L2.tB, L2.tTest, L2.tOp, L2.tUn, L2.tNot, L2.tAnd, L2.tOr, L2.tIf, L2.tCall, L2.tTup, L2.tLst, L2.tNotT, L2.tYes, L2.gTup, L2.gCons, L2.gNil, L2.gSub, L2.tBM0, L2.tBM, L2.tWhile, L2.tFor, L2.iRng1, L2.iRng2, L2.tAugS, Tw.iEnumT, L2.tCKw, L2.tAug, L2.ipI, RT.iRevA, L2.tPar, L2.tPar3, L2.tSl, L2.tNoPart, L2.tPart, Tw.tRevT])
namespace K53
open PySem PySem.Spec PyProof.Rows L2 Tw
def isStrD : PyData → Bool
  | .str _ => true
  | _ => false
theorem isi_str {K : PySem.W.Frag} (d : PyData) : PySem.W.kitOne K (.type (kindOf d)) (.type "str") = some (isStrD d) := by
  cases d with
  | none => exact kit_ty (show kitB "NoneType" "str" = some false by decide +kernel)
  | bool _ => exact kit_ty (show kitB "bool" "str" = some false by decide +kernel)
  | int _ => exact kit_ty (show kitB "int" "str" = some false by decide +kernel)
  | str _ => exact kit_ty (show kitB "str" "str" = some true by decide +kernel)
  | list _ => exact kit_ty (show kitB "list" "str" = some false by decide +kernel)
  | tuple _ => exact kit_ty (show kitB "tuple" "str" = some false by decide +kernel)
  | dict _ => exact kit_ty (show kitB "dict" "str" = some false by decide +kernel)
theorem cut_two {z : Str} {i : Nat} (hi : i ≤ z.length) : cutS z (some (i : Int)) (some ((i : Int) + 2)) = ⟨(((cd z).drop i).take 2).toArray⟩ := by
  have l := cd_len z
  rw [show (i : Int) + 2 = ((i + 2 : Nat) : Int) from by omega]
  unfold cutS
  rw [HT.sIx_nat, HT.sIx_nat, Nat.min_eq_left hi]
  congr 2
  rcases Nat.lt_or_ge z.length (i + 2) with c | c
  · rw [Nat.min_eq_right (by omega), List.take_of_length_le (by rw [List.length_drop, l]; exact Nat.le_refl _), List.take_of_length_le (by rw [List.length_drop]; omega)]
  · rw [Nat.min_eq_left c, show i + 2 - i = 2 from by omega]
section
variable {P : Program} {w : World} {K : PySem.W.Frag} {mg : Str → Option Value} {base : Heap}
theorem scWord : FnScope ["text", "at"] ["text", "at"] (defScope sWord) := ⟨rfl, rfl, rfl, by decide +kernel, rfl, by decide +kernel, by decide +kernel⟩
theorem ok_word (D : Def K mg "end_of_word" sWord ["text", "at"]) (cs : Cs K mg) (c1 : Cal P w K mg base "end_of_run" 1 ["text", "at", "signs"] spRun) : Cal P w K mg base "end_of_word" 2 ["text", "at"] spWord := by
  refine D.ok scWord (fun vs H Q E h => ?_) (fun f cdv A out s H vs Q E hr h => ?_)
  · obtain ⟨z, i, rfl, _⟩ := h; rfl
  obtain ⟨z, i, rfl, zl, il, q⟩ := h
  obtain ⟨tdig, hdig⟩ := cs.dig
  obtain ⟨tsml, hsml⟩ := cs.sml
  obtain ⟨tinn, hinn⟩ := cs.inn
  obtain ⟨pp, hpp, hps⟩ := cs.prs
  refine ⟨_, pss_cons (ps_if (pt_cmpR op_in_sign (pe_ix ix_str (pv 0) (pv 1) (fun _ _ => rfl)) (pe_glob (v := .str "0123456789") (by rfl) hdig ⟨tdig, rfl⟩) (by rfl)) (pss_one (ps_ret (pe_cal c1 hr (by decide) (by rfl) (pa_cons (pv 0) (pa_cons (pv 1) (pa_cons (pe_glob (v := .str "0123456789") (by rfl) hdig ⟨tdig, rfl⟩) pa_nil)))))) pss_nil)
    (pss_cons (ps_if (pt_cmpR op_in_sign (pe_ix ix_str (pv 0) (pv 1) (fun _ _ => rfl)) (pe_glob (v := .str "abcdefghijklmnopqrstuvwxyz") (by rfl) hsml ⟨tsml, rfl⟩) (by rfl)) (pss_one (ps_ret (pe_cal c1 hr (by decide) (by rfl) (pa_cons (pv 0) (pa_cons (pv 1) (pa_cons (pe_glob (v := .str "abcdefghijklmnopqrstuvwxyz0123456789_") (by rfl) hinn ⟨tinn, rfl⟩) pa_nil)))))) pss_nil)
    (pss_one (ps_ret (pe_ifExp (pt_cmpR op_in_seq (pe_slice sl_str (pv 0) (po_some (pv 1)) (po_some (pe_op op_add (pv 1) pe_int))) (pe_glob (v := .ref pp) (by rfl) hpp rfl) (by rfl)) (pe_op op_add (pv 1) pe_int) (pe_op op_add (pv 1) pe_int))))), ?_⟩
  walk_at "rd"
  have l := cd_len z
  have zs := sz zl
  have iz : i < (cd z).length := by omega
  have dk := List.drop_eq_getElem_cons iz
  have at1 : atI (cd z) (i : Int) = some (cd z)[i] := atI_nat (List.getElem?_eq_getElem iz)
  have q0 := q H (Same.refl _)
  rw [dk, tokLen] at q0
  refine ⟨.str z, rfl, .int i, rfl, z, i, (cd z)[i], rfl, rfl, zs, at1, _, _, rfl, rfl, _, rfl, ?_⟩
  rw [dig_eq]
  cases hD : isD (cd z)[i] with
  | true =>
    rw [hD, if_pos rfl] at q0
    refine iteT ⟨.str z, rfl, .int i, rfl, z, "0123456789", i, rfl, zl, by omega, fun H' s' => ?_⟩
    have q1 := q H' s'
    rw [dk, tokLen, hD, if_pos rfl] at q1
    rw [show (fun c => decide (c ∈ cd "0123456789")) = isD from funext dig_eq, dk, run, hD, if_pos rfl]
    exact q1
  | false =>
    rw [hD, if_neg (by decide)] at q0
    refine iteF ⟨.str z, rfl, .int i, rfl, z, i, (cd z)[i], rfl, rfl, zs, at1, _, _, rfl, rfl, _, rfl, ?_⟩
    rw [sml_eq]
    cases hS : isS (cd z)[i] with
    | true =>
      refine iteT ⟨.str z, rfl, .int i, rfl, z, "abcdefghijklmnopqrstuvwxyz0123456789_", i, rfl, zl, by omega, fun H' s' => ?_⟩
      have q1 := q H' s'
      rw [dk, tokLen, hD, if_neg (by decide), hS, if_pos rfl] at q1
      have hN : isN (cd z)[i] = true := by unfold isN; rw [hS]; rfl
      rw [show (fun c => decide (c ∈ cd "abcdefghijklmnopqrstuvwxyz0123456789_")) = isN from funext inn_eq, dk, run, hN, if_pos rfl]
      exact q1
    | false =>
      rw [hS, if_neg (by decide)] at q0
      refine iteF ⟨.str z, rfl, .int i, rfl, (i : Int), rfl, .int i, rfl, _, _, rfl, rfl, _, rfl, z, rfl, zs, pp, _, rfl, .inr (hps H), rfl, rfl, _, rfl, ?_⟩
      rw [cut_two (by omega), pair_eq, show cd ⟨(((cd z).drop i).take 2).toArray⟩ = ((cd z).drop i).take 2 from rfl, dk, two_take]
      cases hC : (isC (cd z)[i] && ((List.drop (i + 1) (cd z)).head? == some 61)) with
      | true =>
        rw [hC, if_pos rfl] at q0
        exact iteT ⟨.int i, rfl, _, _, rfl, rfl, q0⟩
      | false =>
        rw [hC, if_neg (by decide)] at q0
        exact iteF ⟨.int i, rfl, _, _, rfl, rfl, q0⟩
theorem scWords : FnScope ["text", "found", "at", "behind"] ["text"] (defScope sWords) := ⟨rfl, rfl, rfl, by decide +kernel, rfl, by decide +kernel, by decide +kernel⟩
theorem ok_words (D : Def K mg "words_of" sWords ["text"]) (nb : Nb mg) (c1 : Cal P w K mg base "end_of_remark" 1 ["text", "at"] spRem) (c2 : Cal P w K mg base "end_of_word" 2 ["text", "at"] spWord) : Cal P w K mg base "words_of" 3 ["text"] spWords := by
  refine D.ok scWords (fun vs H Q E h => ?_) (fun f cdv A out s H vs Q E hr h => ?_)
  · obtain ⟨z, rfl, _⟩ := h; rfl
  obtain ⟨z, rfl, zl, q⟩ := h
  refine ⟨_, pss_cons (ps_if (pt_not (pt_val (pe_callB (id := "isinstance") (r := rIsi K) call_isi (by rfl) nb.isi (by decide +kernel) (pa_cons (pv 0) (pa_cons (pe_bltn (v := .ty "str") (by rfl) nb.str (by decide +kernel) rfl) pa_nil))))) pss_dead pss_nil)
    (pss_cons (ps_set (i := 1) scWords.nd rfl (Or.inl rfl) (pe_lst pa_nil))
    (pss_cons (ps_set (i := 2) scWords.nd rfl (Or.inl rfl) pe_int)
    (pss_cons (ps_while PassesOwn.never (pt_cmpR op_lt (pv 2) (pe_callB (id := "len") call_len_str (by rfl) nb.len PySem.boot_len (pa_cons (pv 0) pa_nil)) (nomark _))
      (pss_one (ps_if (pt_cmpR op_in_sign (pe_ix ix_str (pv 0) (pv 2) (fun _ _ => rfl)) pe_str (by rfl)) (pss_one (ps_aug (i := 2) scWords.nd rfl (Or.inl rfl) pe_int ip_add))
        (pss_one (ps_if (pt_cmpR op_eq (pe_ix ix_str (pv 0) (pv 2) (fun _ _ => rfl)) pe_str (nomark _)) (pss_one (ps_set (i := 2) scWords.nd rfl (Or.inl rfl) (pe_cal c1 hr (by decide) (by rfl) (pa_cons (pv 0) (pa_cons (pv 2) pa_nil)))))
          (pss_cons (ps_set (i := 3) scWords.nd rfl (Or.inl rfl) (pe_cal c2 hr (by decide) (by rfl) (pa_cons (pv 0) (pa_cons (pv 2) pa_nil))))
          (pss_cons (ps_expr (pe_bm PySem.F.plainAttrs_list PySem.F.slot_list_append PySem.F.type_list_append mt_append (pv 1) (pa_cons (pe_tup (pa_cons (pv 2) (pa_cons (pe_slice sl_str (pv 0) (po_some (pv 2)) (po_some (pv 3))) pa_nil))) pa_nil)))
          (pss_one (ps_set (i := 2) scWords.nd rfl (Or.inl rfl) (pv 3))))))))))
    (pss_one (ps_ret (pe_callTy (T := "tuple") call_tuple_of (by rfl) nb.tup (by decide +kernel) (pa_cons (pv 1) pa_nil))))))), ?_⟩
  walk_at "rd"
  have l := cd_len z
  have zs := sz (show z.length ≤ 100000 by omega)
  refine ⟨.str z, rfl, isi (a := 0) (Da.str z) (isi_str _) ⟨true, rfl, iteF ⟨sz (by simp), fun L nL => ?_⟩⟩⟩
  have s0 := same_new (o := .lst []) nL
  have eL : upd H L (.lst []) L = some (.lst []) := upd_same
  refine ⟨fun m σ H' => ∃ (k : Nat) (x3 : Option V) (xs : List V) (ws : List (Nat × List Nat)), k ≤ z.length ∧ m = z.length - k ∧ σ = [some (.str z), some (.ref L), some (.int (k : Int)), x3] ∧ Same H H' ∧ H' L = some (.lst xs) ∧ RelA W2 H' xs ws ∧ ws.length ≤ k ∧ ws ++ toks k ((cd z).drop k) = toks 0 (cd z), ⟨z.length, 0, none, [], [], Nat.zero_le _, rfl, rfl, s0, eL, ⟨rfl, fun i v e => by simp at e⟩, Nat.le_refl _, rfl⟩, ?_⟩
  rintro m σ H1 ⟨k, x3, xs, ws, kl, rfl, rfl, s1, e1, r1, lw, ew⟩
  refine ⟨.int k, rfl, .str z, rfl, z, rfl, zs, _, _, rfl, rfl, _, rfl, ite2 (fun c => ?_) (fun c => ?_)⟩
  · have c := of_decide_eq_true c
    have kz : k < (cd z).length := by omega
    have dk := List.drop_eq_getElem_cons kz
    have at1 : atI (cd z) (k : Int) = some (cd z)[k] := atI_nat (List.getElem?_eq_getElem kz)
    have rl := run_le notL ((cd z).drop k)
    have tl := tokLen_le ((cd z).drop k)
    have tp := tokLen_pos (cd z)[k] ((cd z).drop (k + 1))
    rw [← dk] at tp
    rw [List.length_drop] at rl tl
    rw [dk] at ew
    refine ⟨fun σ' H' => ∃ (m' k' : Nat) (x3 : Option V) (xs : List V) (ws : List (Nat × List Nat)), m' < z.length - k ∧ k' ≤ z.length ∧ m' = z.length - k' ∧ σ' = [some (.str z), some (.ref L), some (.int (k' : Int)), x3] ∧ Same H H' ∧ H' L = some (.lst xs) ∧ RelA W2 H' xs ws ∧ ws.length ≤ k' ∧ ws ++ toks k' ((cd z).drop k') = toks 0 (cd z), fun σ' H' ⟨m', k', x3, xs, ws, a1, a2⟩ => ⟨m', a1, k', x3, xs, ws, a2⟩, ?_⟩
    refine ⟨.str z, rfl, .int k, rfl, z, k, (cd z)[k], rfl, rfl, zs, at1, _, _, rfl, rfl, _, rfl, ?_⟩
    rw [bl_eq]
    cases hB : isB (cd z)[k] with
    | true =>
      rw [toks_blank hB] at ew
      exact iteT ⟨.int k, rfl, _, _, rfl, rfl, z.length - (k + 1), k + 1, x3, xs, ws, by omega, by omega, rfl, rfl, s1, e1, r1, by omega, ew⟩
    | false =>
      refine iteF ⟨.str z, rfl, .int k, rfl, z, k, (cd z)[k], rfl, rfl, zs, at1, rfl, _, rfl, ?_⟩
      rw [one_eq _ 35 _ (by decide)]
      refine ite2 (fun c35 => ?_) (fun c35 => ?_)
      · have c35 := of_decide_eq_true c35
        rw [c35, toks_remark] at ew
        have dr : ((cd z).drop (k + 1)).drop (run notL ((cd z).drop (k + 1))) = (cd z).drop (k + 1 + run notL ((cd z).drop (k + 1))) := by rw [List.drop_drop]
        have rr : run notL ((cd z).drop k) = 1 + run notL ((cd z).drop (k + 1)) := by
          rw [dk, run, c35]
          rfl
        rw [dr] at ew
        refine ⟨.str z, rfl, .int k, rfl, z, k, rfl, by omega, by omega, fun H2 s2 => ?_⟩
        rw [rr, show k + (1 + run notL ((cd z).drop (k + 1))) = k + 1 + run notL ((cd z).drop (k + 1)) from by omega]
        exact ⟨z.length - (k + 1 + run notL ((cd z).drop (k + 1))), k + 1 + run notL ((cd z).drop (k + 1)), x3, xs, ws, by omega, by omega, rfl, rfl, s1.trans s2, s2 _ _ e1, r1.kt stable_w2 (Kt.of s2), by omega, ew⟩
      · have c35' : (cd z)[k] ≠ 35 := fun e => c35 (decide_eq_true e)
        rw [toks_word hB c35', ← dk, List.drop_drop] at ew
        refine ⟨.str z, rfl, .int k, rfl, z, k, rfl, by omega, by omega, fun H2 s2 => ?_⟩
        refine ⟨.ref L, rfl, .inl ⟨rfl, _, SqL.of (s2 _ _ e1)⟩, .int k, rfl, .str z, rfl, .int k, rfl, (k : Int), rfl, .int _, rfl, _, rfl, z, rfl, zs, sz (by simp), fun p np => ?_⟩
        have s3 := s2.trans (same_new (o := .tup [.int (k : Int), .str (cutS z (some (k : Int)) (some ((k + tokLen ((cd z).drop k) : Nat) : Int)))]) np)
        have lx := r1.1
        have w2 : W2 (upd H2 p (.tup [.int (k : Int), .str (cutS z (some (k : Int)) (some ((k + tokLen ((cd z).drop k) : Nat) : Int)))])) (.ref p) (k, ((cd z).drop k).take (tokLen ((cd z).drop k))) := ⟨p, rfl, by rw [upd_same, cut_codes (by omega) (by omega), show k + tokLen ((cd z).drop k) - k = tokLen ((cd z).drop k) from by omega]⟩
        generalize upd H2 p (.tup [.int (k : Int), .str (cutS z (some (k : Int)) (some ((k + tokLen ((cd z).drop k) : Nat) : Int)))]) = H3 at s3 w2 ⊢
        have e3 := s3 _ _ e1
        refine ⟨L, xs, .ref p, rfl, rfl, e3, lt_line (by omega), .int _, rfl, z.length - (k + tokLen ((cd z).drop k)), k + tokLen ((cd z).drop k), some (.int _), xs ++ [.ref p], ws ++ [(k, ((cd z).drop k).take (tokLen ((cd z).drop k)))], by omega, by omega, rfl, rfl, same_upd (s1.trans s3) nL, upd_same, ((r1.kt stable_w2 (Kt.of s3)).snoc w2).kt stable_w2 (kt_upd e3), by simp; omega, ?_⟩
        rw [List.append_assoc]
        exact ew
  · have c' : ¬ ((k : Int) < (z.length : Int)) := fun z => c (decide_eq_true z)
    have ek : k = (cd z).length := by omega
    rw [ek, List.drop_length, toks_nil, List.append_nil] at ew
    refine ⟨.ref L, rfl, L, xs, rfl, .inl ⟨SqL.of e1, fun t nt => ?_⟩⟩
    have s2 := same_new (o := .tup xs) nt
    exact q t xs _ (s1.trans s2) upd_same (by rw [← ew]; exact r1.kt stable_w2 (Kt.of s2))
end
end K53

set_option Elab.async false
set_option linter.all false
set_option maxRecDepth 100000
set_option maxHeartbeats 8000000
local macro_rules | `(tactic| walk_at "rd") => `(tactic| dsimp only [Evl.tCut, L2.tSeq, L2.tNext, L2.tRet, L2.tRetN, L2.tAsg, L2.gName, L2.tIfS, L2.tDrop, L2.tCons, L2.tNil, L2.tC, L2.tVar, L2.tCB, L2.tAndV, L2.tOrV, L2.tNotV, L2.tB, L2.tTest, L2.tOp, L2.tUn, L2.tNot, L2.tAnd, L2.tOr, L2.tIf, L2.tCall, L2.tTup, L2.tLst, L2.tNotT, L2.tYes, L2.gTup, L2.gCons, L2.gNil, L2.gSub, L2.tBM0, L2.tBM, L2.tWhile, L2.tFor, L2.iRng1, L2.iRng2, L2.tAugS, Tw.iEnumT, L2.tCKw, L2.tAug, L2.ipI, RT.iRevA, L2.tPar, L2.tPar3, L2.tSl, L2.tNoPart, L2.tPart, Tw.tRevT])
namespace K53
open PySem PySem.Spec PyProof.Rows L2 Tw
/-- the signs that a word goes on with -/
def moreS (c : Nat) : Str := if isD c then "0123456789" else if isS c then "abcdefghijklmnopqrstuvwxyz0123456789_" else ""
theorem cmp_eq (c : Nat) : decide (c ∈ cd "<>!") = isC c := by
  rw [show cd "<>!" = [60, 62, 33] from by decide]
  unfold isC
  rw [decide_eq_decide]
  simp only [List.mem_cons, List.not_mem_nil, or_false]
theorem az_app : (("abcdefghijklmnopqrstuvwxyz" : Str) ++ ("0123456789" : Str)) ++ ("_" : Str) = ("abcdefghijklmnopqrstuvwxyz0123456789_" : Str) := by decide +kernel
theorem run_none (cs : List Nat) : run (fun c => decide (c ∈ cd "")) cs = 0 := by
  cases cs with
  | nil => rfl
  | cons c r => rfl
/-- what stands behind the first sign of a word -/
theorem tok_more (c : Nat) (r : List Nat) : tokLen (c :: r) = 1 + run (fun x => decide (x ∈ cd (moreS c))) r + (if isC c && ((r.drop (run (fun x => decide (x ∈ cd (moreS c))) r)).head? == some 61) then 1 else 0) := by
  rw [tokLen]
  unfold moreS
  cases hD : isD c with
  | true =>
    have hC : isC c = false := by unfold isD at hD; unfold isC; simp at hD ⊢; omega
    rw [if_pos rfl, hC]
    rw [show (fun x => decide (x ∈ cd (if true = true then ("0123456789" : Str) else if isS c = true then "abcdefghijklmnopqrstuvwxyz0123456789_" else ""))) = isD from funext dig_eq]
    simp
  | false =>
    rw [if_neg (by decide)]
    cases hS : isS c with
    | true =>
      have hC : isC c = false := by unfold isS at hS; unfold isC; simp at hS ⊢; omega
      rw [if_pos rfl, hC]
      rw [show (fun x => decide (x ∈ cd (if false = true then ("0123456789" : Str) else if true = true then "abcdefghijklmnopqrstuvwxyz0123456789_" else ""))) = isN from funext inn_eq]
      simp
    | false =>
      rw [if_neg (by decide)]
      rw [show (fun x => decide (x ∈ cd (if false = true then ("0123456789" : Str) else if false = true then "abcdefghijklmnopqrstuvwxyz0123456789_" else ""))) = (fun x => decide (x ∈ cd "")) from rfl, run_none, List.drop_zero]
      cases hC : (isC c && r.head? == some 61) <;> rfl
def spScan : Sp := fun vs H Q _ => ∃ (z : Str), vs = [.str z] ∧ z.length < 90000 ∧ ∀ p xs H', Same H H' → H p = none → H' p = some (.lst xs) → RelA W2 H' xs (toks 0 (cd z)) → Q (.ref p) H'
section
variable {P : Program} {w : World} {K : PySem.W.Frag} {mg : Str → Option Value} {base : Heap}
theorem scScan : FnScope ["_law_text_here", "_law_az", "_law_nine", "_law_found", "_law_at", "_law_lap", "_law_ahead", "_law_sign", "_law_end", "_law_more"] ["_law_text_here"] (defScope sScan) := ⟨rfl, rfl, rfl, by decide +kernel, rfl, by decide +kernel, by decide +kernel⟩
theorem ok_scan (D : Def K mg "_law_scan" sScan ["_law_text_here"]) (nb : Nb mg) : Cal P w K mg base "_law_scan" 1 ["_law_text_here"] spScan := by
  refine D.ok scScan (fun vs H Q E h => ?_) (fun f cdv A out s H vs Q E hr h => ?_)
  · obtain ⟨z, rfl, _⟩ := h; rfl
  obtain ⟨z, rfl, zl, q⟩ := h
  refine ⟨_, pss_cons (ps_asg (pe_tup (pa_cons pe_str (pa_cons pe_str (pa_cons (pe_lst pa_nil) (pa_cons pe_int pa_nil))))) (pg_tup rfl (pgs_cons (pg_name (i := 1) scScan.nd rfl (Or.inl rfl)) (pgs_cons (pg_name (i := 2) scScan.nd rfl (Or.inl rfl)) (pgs_cons (pg_name (i := 3) scScan.nd rfl (Or.inl rfl)) (pgs_cons (pg_name (i := 4) scScan.nd rfl (Or.inl rfl)) pgs_nil))))))
    (pss_cons (ps_for PassesOwn.never rfl (pi_range1 (by rfl) nb.rng (pa_cons (pe_callB (id := "len") call_len_str (by rfl) nb.len PySem.boot_len (pa_cons (pv 0) pa_nil)) pa_nil)) (pg_name (i := 5) scScan.nd rfl (Or.inl rfl))
      (pss_cons (ps_if (pt_cmpR op_ge (pv 4) (pe_callB (id := "len") call_len_str (by rfl) nb.len PySem.boot_len (pa_cons (pv 0) pa_nil)) (nomark _)) (pss_one ps_break) pss_nil)
      (pss_cons (ps_par3 (i := 6) (j := 7) (l := 4) rfl scScan.nd rfl rfl rfl (by decide) (by decide) (by decide) rfl rfl rfl (pa_cons (pv 4) (pa_cons (pe_ix ix_str (pv 0) (pv 4) (fun _ _ => rfl)) (pa_cons (pe_op op_add (pv 4) pe_int) pa_nil))) rfl)
      (pss_one (ps_if (pt_cmpR op_eq (pv 7) pe_str (nomark _))
        (pss_cons (ps_set (i := 8) scScan.nd rfl (Or.inl rfl) (pe_bm PySem.F.plainAttrs_str PySem.F.slot_str_find PySem.F.type_str_find mt_find3 (pv 0) (pa_cons pe_str (pa_cons (pv 6) pa_nil))))
        (pss_one (ps_set (i := 4) scScan.nd rfl (Or.inl rfl) (pe_ifExp (pt_cmpR op_ge (pv 8) pe_int (nomark _)) (pv 8) (pe_callB (id := "len") call_len_str (by rfl) nb.len PySem.boot_len (pa_cons (pv 0) pa_nil))))))
        (pss_one (ps_if (pt_cmpR op_notIn_sign (pv 7) pe_str (by rfl))
          (Evl.pss_cut (ps_set (i := 9) scScan.nd rfl (Or.inl rfl) (pe_ifExp (pt_cmpR op_in_sign (pv 7) (pv 2) (by rfl)) (pv 2) (pe_ifExp (pt_cmpR op_in_sign (pv 7) (pv 1) (by rfl)) (pe_op op_add_str (pe_op op_add_str (pv 1) (pv 2)) pe_str) pe_str)))
          (Evl.pss_cut (ps_while PassesOwn.never (PW.pt (pw_and (pt_cmpR op_lt (pv 4) (pe_callB (id := "len") call_len_str (by rfl) nb.len PySem.boot_len (pa_cons (pv 0) pa_nil)) (nomark _)) (pw_and1 (pt_cmpR op_in_sign (pe_ix ix_str (pv 0) (pv 4) (fun _ _ => rfl)) (pv 9) (by rfl))))) (pss_one (ps_set (i := 4) scScan.nd rfl (Or.inl rfl) (pe_op op_add (pv 4) pe_int))))
          (Evl.pss_cut (ps_if (PW.pt (pw_and (pt_cmpR op_in_sign (pv 7) pe_str (by rfl)) (pw_and (pt_cmpR op_lt (pv 4) (pe_callB (id := "len") call_len_str (by rfl) nb.len PySem.boot_len (pa_cons (pv 0) pa_nil)) (nomark _)) (pw_and1 (pt_cmpR op_eq (pe_ix ix_str (pv 0) (pv 4) (fun _ _ => rfl)) pe_str (nomark _)))))) (pss_one (ps_set (i := 4) scScan.nd rfl (Or.inl rfl) (pe_op op_add (pv 4) pe_int))) pss_nil)
          (pss_one (ps_expr (pe_bm PySem.F.plainAttrs_list PySem.F.slot_list_append PySem.F.type_list_append mt_append (pv 3) (pa_cons (pe_tup (pa_cons (pv 6) (pa_cons (pe_slice sl_str (pv 0) (po_some (pv 6)) (po_some (pv 4))) pa_nil))) pa_nil)))))))
          pss_nil)))))))
    (pss_one (ps_ret (pv 3)))), ?_⟩
  walk_at "rd"
  have l := cd_len z
  have zs := sz (show z.length ≤ 100000 by omega)
  refine ⟨sz (by simp), fun L nL => ⟨sz (by simp), fun t nt => ⟨t, _, rfl, SqT.of upd_same, rfl, _, _, rfl, _, _, rfl, _, _, rfl, _, _, rfl, rfl, .str z, rfl, z, rfl, zs, ?_⟩⟩⟩
  have s0 : Same H (upd (upd H L (.lst [])) t (.tup [.str "abcdefghijklmnopqrstuvwxyz", .str "0123456789", .ref L, .int 0])) := (same_new nL).trans (same_new nt)
  have eL : (upd (upd H L (.lst [])) t (.tup [.str "abcdefghijklmnopqrstuvwxyz", .str "0123456789", .ref L, .int 0])) L = some (.lst []) := same_new nt _ _ upd_same
  generalize upd (upd H L (.lst [])) t (.tup [.str "abcdefghijklmnopqrstuvwxyz", .str "0123456789", .ref L, .int 0]) = H0 at s0 eL ⊢
  have fin : ∀ (k : Nat) (xs : List V) (ws : List (Nat × List Nat)) (H' : Hp), z.length ≤ k → k ≤ z.length → Same H H' → H' L = some (.lst xs) → RelA W2 H' xs ws → ws ++ toks k ((cd z).drop k) = toks 0 (cd z) → Q (.ref L) H' := by
    intro k xs ws H' h1 h2 s1 e1 r1 ew
    rw [show k = (cd z).length from by omega, List.drop_length, toks_nil, List.append_nil] at ew
    exact q L xs H' s1 nL e1 (by rw [← ew]; exact r1)
  refine ⟨_, rfl, by omega, by omega, for_rng (lo := 0) (n := ((z.length : Nat) : Int).toNat) (fun i σ H' => ∃ (k : Nat) (x5 x6 x7 x8 x9 : Option V) (xs : List V) (ws : List (Nat × List Nat)), i ≤ k ∧ k ≤ z.length ∧ σ = [some (.str z), some (.str "abcdefghijklmnopqrstuvwxyz"), some (.str "0123456789"), some (.ref L), some (.int (k : Int)), x5, x6, x7, x8, x9] ∧ Same H H' ∧ H' L = some (.lst xs) ∧ RelA W2 H' xs ws ∧ ws.length ≤ k ∧ ws ++ toks k ((cd z).drop k) = toks 0 (cd z)) ⟨0, none, none, none, none, none, [], [], Nat.le_refl _, Nat.zero_le _, rfl, s0, eL, ⟨rfl, fun i v e => by simp at e⟩, Nat.le_refl _, rfl⟩ ?_ ?_⟩
  · rintro i σ H1 iz ⟨k, x5, x6, x7, x8, x9, xs, ws, ik, kl, rfl, s1, e1, r1, lw, ew⟩
    refine ⟨.int k, rfl, .str z, rfl, z, rfl, zs, _, _, rfl, rfl, _, rfl, ite2 (fun c => ?_) (fun c => ?_)⟩
    · have c := of_decide_eq_true c
      dsimp only [L2.tBreak]
      exact ⟨_, rfl, fin k xs ws H1 (by omega) kl s1 e1 r1 ew⟩
    · have c : ¬ ((z.length : Int) ≤ (k : Int)) := fun z => c (decide_eq_true z)
      have kz : k < (cd z).length := by omega
      have dk := List.drop_eq_getElem_cons kz
      have at1 : atI (cd z) (k : Int) = some (cd z)[k] := atI_nat (List.getElem?_eq_getElem kz)
      have tl := tokLen_le ((cd z).drop k)
      have tp := tokLen_pos (cd z)[k] ((cd z).drop (k + 1))
      rw [← dk] at tp
      have tm := tok_more (cd z)[k] ((cd z).drop (k + 1))
      rw [← dk, List.drop_drop] at tm
      rw [List.length_drop] at tl
      rw [dk] at ew
      walk_at "rd"
      generalize hcc : (cd z)[k] = cc at *
      refine ⟨.int k, rfl, .str z, rfl, .int k, rfl, z, k, cc, rfl, rfl, zs, at1, .int k, rfl, _, _, rfl, rfl, _, _, _, rfl, .str _, rfl, rfl, _, rfl, ?_⟩
      rw [one_eq _ 35 _ (by decide)]
      refine ite2 (fun c35 => ?_) (fun c35 => ?_)
      · have c35 := of_decide_eq_true c35
        rw [c35] at hcc
        rw [c35, toks_remark] at ew
        have dr : ((cd z).drop (k + 1)).drop (run notL ((cd z).drop (k + 1))) = (cd z).drop (k + 1 + run notL ((cd z).drop (k + 1))) := by rw [List.drop_drop]
        have rr : run notL ((cd z).drop k) = 1 + run notL ((cd z).drop (k + 1)) := by
          rw [dk, run, c35]
          rfl
        have rl := run_le notL ((cd z).drop k)
        rw [List.length_drop] at rl
        rw [dr] at ew
        have fe := find_end (z := z) (i := k) (by omega)
        rw [rr] at fe
        refine ⟨.str z, rfl, rfl, .int k, rfl, z, _, _, rfl, rfl, .int _, rfl, _, _, rfl, rfl, _, rfl, ite2 (fun c0 => ?_) (fun c0 => ?_)⟩
        · have c0 := of_decide_eq_true c0
          rw [if_neg (by omega)] at fe
          rw [fe]
          exact ⟨_, rfl, k + 1 + run notL ((cd z).drop (k + 1)), _, _, _, _, _, xs, ws, by omega, by omega, by rw [show k + 1 + run notL ((cd z).drop (k + 1)) = k + (1 + run notL ((cd z).drop (k + 1))) from by omega]; rfl, s1, e1, r1, by omega, ew⟩
        · have c0 : ¬ ((0 : Int) ≤ Txt.find3 z "
" (k : Int)) := fun z => c0 (decide_eq_true z)
          rw [if_pos (by omega)] at fe
          refine ⟨.str z, rfl, z, rfl, zs, ?_⟩
          rw [fe]
          exact ⟨k + 1 + run notL ((cd z).drop (k + 1)), _, _, _, _, _, xs, ws, by omega, by omega, by rw [show k + 1 + run notL ((cd z).drop (k + 1)) = k + (1 + run notL ((cd z).drop (k + 1))) from by omega]; rfl, s1, e1, r1, by omega, ew⟩
      · have c35' : cc ≠ 35 := fun e => c35 (decide_eq_true e)
        refine ⟨.str _, rfl, cc, _, rfl, rfl, _, rfl, ?_⟩
        rw [bl_eq]
        cases hB : isB cc with
        | true =>
          rw [toks_blank hB] at ew
          exact iteF ⟨k + 1, _, _, _, _, _, xs, ws, by omega, by omega, rfl, s1, e1, r1, by omega, ew⟩
        | false =>
          rw [toks_word hB c35', ← dk, List.drop_drop] at ew
          refine iteT ⟨fun σ' H' => σ' = [some (.str z), some (.str "abcdefghijklmnopqrstuvwxyz"), some (.str "0123456789"), some (.ref L), some (.int (((k : Int) + 1) : Int)), some (.int (0 + (i : Int))), some (.int (k : Int)), some (.str ⟨#[cc]⟩), x8, some (.str (moreS cc))] ∧ H' = H1, ?_, ?_⟩
          · refine ⟨.str _, rfl, .str _, rfl, cc, _, rfl, rfl, _, rfl, ?_⟩
            rw [dig_eq]
            unfold moreS
            cases hD : isD cc with
            | true => exact iteT ⟨_, rfl, rfl, rfl⟩
            | false =>
              refine iteF ⟨.str _, rfl, .str _, rfl, cc, _, rfl, rfl, _, rfl, ?_⟩
              rw [sml_eq]
              cases hS : isS cc with
              | true =>
                refine iteT ⟨.str _, rfl, .str _, rfl, _, _, rfl, rfl, sz (by decide +kernel), _, _, rfl, rfl, sz (by decide +kernel), ?_⟩
                rw [az_app]
                exact ⟨rfl, rfl⟩
              | false => exact iteF ⟨rfl, rfl⟩
          rintro σ H2 ⟨rfl, rfl⟩
          refine ⟨fun σ' H' => σ' = [some (.str z), some (.str "abcdefghijklmnopqrstuvwxyz"), some (.str "0123456789"), some (.ref L), some (.int (((k + 1 + run (fun x => decide (x ∈ cd (moreS cc))) ((cd z).drop (k + 1)) : Nat) : Int) : Int)), some (.int (0 + (i : Int))), some (.int (k : Int)), some (.str ⟨#[cc]⟩), x8, some (.str (moreS cc))] ∧ H' = H2, ?_, ?_⟩
          · refine ⟨fun m σ H' => ∃ j : Nat, k + 1 ≤ j ∧ j ≤ z.length ∧ m = z.length - j ∧ σ = [some (.str z), some (.str "abcdefghijklmnopqrstuvwxyz"), some (.str "0123456789"), some (.ref L), some (.int (j : Int)), some (.int (0 + (i : Int))), some (.int (k : Int)), some (.str ⟨#[cc]⟩), x8, some (.str (moreS cc))] ∧ H' = H2 ∧ j + run (fun x => decide (x ∈ cd (moreS cc))) ((cd z).drop j) = k + 1 + run (fun x => decide (x ∈ cd (moreS cc))) ((cd z).drop (k + 1)), ⟨z.length - (k + 1), k + 1, Nat.le_refl _, by omega, rfl, rfl, rfl, rfl⟩, ?_⟩
            rintro m σ H1 ⟨j, kj, jl, rfl, rfl, rfl, ej⟩
            refine ⟨.int j, rfl, .str z, rfl, z, rfl, zs, _, _, rfl, rfl, _, rfl, ite2 (fun c => ?_) (fun c => ?_)⟩
            · have c := of_decide_eq_true c
              have jz : j < (cd z).length := by omega
              have dj := List.drop_eq_getElem_cons jz
              refine ⟨.str z, rfl, .int j, rfl, z, j, (cd z)[j], rfl, rfl, zs, atI_nat (List.getElem?_eq_getElem jz), .str _, rfl, _, _, rfl, rfl, _, rfl, ?_⟩
              rw [dj, run] at ej
              cases hc : decide ((cd z)[j] ∈ cd (moreS cc)) with
              | true =>
                rw [hc, if_pos rfl] at ej
                exact iteT ⟨fun σ' H' => σ' = [some (.str z), some (.str "abcdefghijklmnopqrstuvwxyz"), some (.str "0123456789"), some (.ref L), some (.int (((j + 1 : Nat) : Int) : Int)), some (.int (0 + (i : Int))), some (.int (k : Int)), some (.str ⟨#[cc]⟩), x8, some (.str (moreS cc))] ∧ H' = H1, fun σ' H' h => ⟨z.length - (j + 1), by omega, j + 1, by omega, by omega, rfl, h.1, h.2, by omega⟩, .int j, rfl, _, _, rfl, rfl, by rfl, rfl⟩
              | false =>
                rw [hc, if_neg (by decide), Nat.add_zero] at ej
                rw [← ej]
                exact iteF ⟨rfl, rfl⟩
            · have c' : ¬ ((j : Int) < (z.length : Int)) := fun z => c (decide_eq_true z)
              have ek : j = (cd z).length := by omega
              rw [ek, List.drop_length] at ej
              rw [← ej, ek]
              exact ⟨rfl, rfl⟩
          rintro σ H1 ⟨rfl, rfl⟩
          generalize hJ : k + 1 + run (fun x => decide (x ∈ cd (moreS cc))) ((cd z).drop (k + 1)) = J at *
          refine ⟨fun σ' H' => σ' = [some (.str z), some (.str "abcdefghijklmnopqrstuvwxyz"), some (.str "0123456789"), some (.ref L), some (.int (((k + tokLen ((cd z).drop k) : Nat) : Int) : Int)), some (.int (0 + (i : Int))), some (.int (k : Int)), some (.str ⟨#[cc]⟩), x8, some (.str (moreS cc))] ∧ H' = H1, ?_, ?_⟩
          · refine ⟨.str _, rfl, cc, _, rfl, rfl, _, rfl, ?_⟩
            rw [cmp_eq]
            cases hC : isC cc with
            | false =>
              rw [hC, Bool.false_and, if_neg (by decide), Nat.add_zero] at tm
              refine iteF ⟨?_, rfl⟩
              rw [tm, show k + (1 + run (fun x => decide (x ∈ cd (moreS cc))) ((cd z).drop (k + 1))) = J from by omega]
            | true =>
              rw [hC, Bool.true_and] at tm
              refine iteT ⟨.int J, rfl, .str z, rfl, z, rfl, zs, _, _, rfl, rfl, _, rfl, ite2 (fun c => ?_) (fun c => ?_)⟩
              · have c := of_decide_eq_true c
                have jz : J < (cd z).length := by omega
                have dj := List.drop_eq_getElem_cons jz
                refine ⟨.str z, rfl, .int J, rfl, z, J, (cd z)[J], rfl, rfl, zs, atI_nat (List.getElem?_eq_getElem jz), rfl, _, rfl, ?_⟩
                rw [one_eq _ 61 _ (by decide)]
                rw [dj, List.head?_cons] at tm
                refine ite2 (fun c1 => ?_) (fun c1 => ?_)
                · have c1 := of_decide_eq_true c1
                  rw [c1, if_pos (by decide)] at tm
                  refine ⟨.int J, rfl, _, _, rfl, rfl, ?_, rfl⟩
                  rw [tm, show k + (1 + run (fun x => decide (x ∈ cd (moreS cc))) ((cd z).drop (k + 1)) + 1) = J + 1 from by omega]
                  rfl
                · have c1 : ¬ ((cd z)[J] = 61) := fun z => c1 (decide_eq_true z)
                  rw [if_neg (by simpa using c1), Nat.add_zero] at tm
                  refine ⟨?_, rfl⟩
                  rw [tm, show k + (1 + run (fun x => decide (x ∈ cd (moreS cc))) ((cd z).drop (k + 1))) = J from by omega]
              · have c' : ¬ ((J : Int) < (z.length : Int)) := fun z => c (decide_eq_true z)
                have hj : (cd z).drop J = [] := List.drop_eq_nil_of_le (by omega)
                rw [hj, if_neg (by decide), Nat.add_zero] at tm
                refine ⟨?_, rfl⟩
                rw [tm, show k + (1 + run (fun x => decide (x ∈ cd (moreS cc))) ((cd z).drop (k + 1))) = J from by omega]
          rintro σ H2 ⟨rfl, rfl⟩
          refine ⟨.ref L, rfl, .inl ⟨rfl, _, SqL.of e1⟩, .int k, rfl, .str z, rfl, .int k, rfl, (k : Int), rfl, .int _, rfl, _, rfl, z, rfl, zs, sz (by simp), fun p np => ?_⟩
          have s3 := same_new (o := .tup [.int (k : Int), .str (cutS z (some (k : Int)) (some ((k + tokLen ((cd z).drop k) : Nat) : Int)))]) np
          have lx := r1.1
          have w2 : W2 (upd H2 p (.tup [.int (k : Int), .str (cutS z (some (k : Int)) (some ((k + tokLen ((cd z).drop k) : Nat) : Int)))])) (.ref p) (k, ((cd z).drop k).take (tokLen ((cd z).drop k))) := ⟨p, rfl, by rw [upd_same, cut_codes (by omega) (by omega), show k + tokLen ((cd z).drop k) - k = tokLen ((cd z).drop k) from by omega]⟩
          generalize upd H2 p (.tup [.int (k : Int), .str (cutS z (some (k : Int)) (some ((k + tokLen ((cd z).drop k) : Nat) : Int)))]) = H3 at s3 w2 ⊢
          have e3 := s3 _ _ e1
          refine ⟨L, xs, .ref p, rfl, rfl, e3, lt_line (by omega), k + tokLen ((cd z).drop k), _, _, _, _, _, xs ++ [.ref p], ws ++ [(k, ((cd z).drop k).take (tokLen ((cd z).drop k)))], by omega, by omega, rfl, same_upd (s1.trans s3) nL, upd_same, ((r1.kt stable_w2 (Kt.of s3)).snoc w2).kt stable_w2 (kt_upd e3), by simp; omega, ?_⟩
          rw [List.append_assoc]
          exact ew
  · rintro σ H1 ⟨k, x5, x6, x7, x8, x9, xs, ws, ik, kl, rfl, s1, e1, r1, lw, ew⟩
    exact ⟨_, rfl, fin k xs ws H1 (by omega) kl s1 e1 r1 ew⟩
end
end K53

set_option Elab.async false
set_option linter.all false
set_option maxRecDepth 100000
set_option maxHeartbeats 8000000
local macro_rules | `(tactic| walk_at "rd") => `(tactic| dsimp only [Evl.tCut, L2.tSeq, L2.tNext, L2.tRet, L2.tRetN, L2.tAsg, L2.gName, L2.tIfS, L2.tDrop, L2.tCons, L2.tNil, L2.tC, L2.tVar, L2.tCB, L2.tAndV, L2.tOrV, L2.tNotV, L2.tB, L2.tTest, L2.tOp, L2.tUn, L2.tNot, L2.tAnd, L2.tOr, L2.tIf, L2.tCall, L2.tTup, L2.tLst, L2.tNotT, L2.tYes, L2.gTup, L2.gCons, L2.gNil, L2.gSub, L2.tBM0, L2.tBM, L2.tWhile, L2.tFor, L2.iRng1, L2.iRng2, L2.tAugS, Tw.iEnumT, L2.tCKw, L2.tAug, L2.ipI, RT.iRevA, L2.tPar, L2.tPar3, L2.tSl, L2.tNoPart, L2.tPart, Tw.tRevT])
namespace K53
open PySem PySem.Spec PyProof.Rows L2 Tw
/-- the well: a list of four ints -/
def Wl (a : Addr) (H : Hp) : Prop := ∃ x y z u : Int, H a = some (.lst [.int x, .int y, .int z, .int u])
theorem Wl.to {a : Addr} {H H' : Hp} (x : Same H H') (w : Wl a H) : Wl a H' := by
  obtain ⟨i, j, k, u, h⟩ := w
  exact ⟨i, j, k, u, x _ _ h⟩
theorem Wl.ne {a p : Addr} {H : Hp} (w : Wl a H) (h : H p = none) : p ≠ a := by
  obtain ⟨i, j, k, u, e⟩ := w
  exact fun z => by rw [z, e] at h; cases h
theorem Wl.tup {a p : Addr} {H : Hp} {xs : List V} (w : Wl a H) (h : H p = some (.tup xs)) : p ≠ a := by
  obtain ⟨i, j, k, u, e⟩ := w
  exact fun z => by rw [z, e] at h; cases h
theorem Wl.some {a : Addr} {H : Hp} (w : Wl a H) : H a ≠ none := by
  obtain ⟨i, j, k, u, e⟩ := w
  rw [e]
  exact fun z => by cases z
theorem kt_wl {a : Addr} {H H' : Hp} (w : Wl a H) (k : Kp a H H') : Kt H H' := fun b xs e => k b _ (w.tup e) e
/-- an int from 0 on below n; the well is turned -/
def spDraw : Sp := fun vs H Q _ => ∃ a n, vs = [.ref a, .int n] ∧ Wl a H ∧ 0 < n ∧ n < 1073741824 ∧ ∀ d H', 0 ≤ d → d < n → Kp a H H' → Wl a H' → Q (.int d) H'
/-- one of a tuple's items -/
def spPick : Sp := fun vs H Q _ => ∃ a p xs, vs = [.ref a, .ref p] ∧ Wl a H ∧ p ≠ a ∧ H p = some (.tup xs) ∧ xs ≠ [] ∧ xs.length < 1000 ∧ ∀ (i : Nat) x H', xs[i]? = some x → Kp a H H' → Wl a H' → Q x H'
theorem kp_well {a : Addr} {H H' : Hp} {o : HO} (h : Kp a H H') : Kp a H (upd H' a o) := fun b u n e => by
  rw [upd_ne n]; exact h b u n e
section
variable {P : Program} {w : World} {K : PySem.W.Frag} {mg : Str → Option Value} {base : Heap}
theorem scDraw : FnScope ["_law_well_here", "_law_most", "_law_digit", "_law_seed"] ["_law_well_here", "_law_most"] (defScope sDraw) := ⟨rfl, rfl, rfl, by decide +kernel, rfl, by decide +kernel, by decide +kernel⟩
theorem ok_draw (D : Def K mg "_law_draw" sDraw ["_law_well_here", "_law_most"]) (nb : Nb mg) : Cal P w K mg base "_law_draw" 1 ["_law_well_here", "_law_most"] spDraw := by
  refine D.ok scDraw (fun vs H Q E h => ?_) (fun f cdv A out s H vs Q E hr h => ?_)
  · obtain ⟨a, n, rfl, _⟩ := h; rfl
  obtain ⟨a, n, rfl, ⟨x, y, z, u, hw⟩, n0, n1, q⟩ := h
  refine ⟨_, pss_cons (ps_if (pt_cmpR op_gt (pe_ix ix_list (pv 0) pe_int (fun _ _ => rfl)) pe_int (nomark _))
      (pss_cons (ps_asg (pe_callB (id := "divmod") call_divmod (by rfl) nb.dvm (by decide +kernel) (pa_cons (pe_ix ix_list (pv 0) pe_int (fun _ _ => rfl)) (pa_cons (pv 1) pa_nil)))
          (pg_tup rfl (pgs_cons (pg_sub (pv 0) pe_int set_list) (pgs_cons (pg_name (i := 2) scDraw.nd rfl (Or.inl rfl)) pgs_nil))))
        (pss_one (ps_ret (pv 2)))) pss_nil)
    (pss_cons (ps_asg (pe_op op_add (pe_ix ix_list (pv 0) pe_int (fun _ _ => rfl)) pe_int) (pg_sub (pv 0) pe_int set_list))
    (pss_cons (ps_set (i := 3) scDraw.nd rfl (Or.inl rfl) (pe_op op_mod (pe_callTy (T := "int") call_int1 (by rfl) nb.int (by decide +kernel)
        (pa_cons (pe_op op_add (pe_ix ix_list (pv 0) pe_int (fun _ _ => rfl)) (pe_op op_mul pe_int (pe_ix ix_list (pv 0) pe_int (fun _ _ => rfl)))) pa_nil)) pe_int))
    (pss_cons (ps_asg (pe_op op_mod (pe_callTy (T := "int") call_int1 (by rfl) nb.int (by decide +kernel)
        (pa_cons (pe_op op_add (pe_op op_mul (pv 3) (pe_op op_add (pe_op op_mod (pe_callTy (T := "int") call_int1 (by rfl) nb.int (by decide +kernel) (pa_cons (pv 3) pa_nil)) pe_int) pe_int))
          (pe_op op_mul pe_int (pe_ix ix_list (pv 0) pe_int (fun _ _ => rfl)))) pa_nil)) pe_int) (pg_sub (pv 0) pe_int set_list))
    (pss_one (ps_ret (pe_op op_mod (pe_callTy (T := "int") call_int1 (by rfl) nb.int (by decide +kernel) (pa_cons (pe_op op_fdiv (pe_ix ix_list (pv 0) pe_int (fun _ _ => rfl)) pe_int) pa_nil)) (pv 1))))))), ?_⟩
  walk_at "rd"
  refine ⟨.ref a, rfl, a, _, 0, .int x, rfl, rfl, SqL.of hw, rfl, x, 0, rfl, rfl, _, rfl, ite2 (fun c => ?_) (fun c => ?_)⟩
  · refine ⟨.ref a, rfl, a, _, 0, .int x, rfl, rfl, SqL.of hw, rfl, .int n, rfl, x, n, rfl, ⟨n0, n1⟩, fun t nt => ?_⟩
    have ta : t ≠ a := (show Wl a H from ⟨x, y, z, u, hw⟩).ne nt
    have h1 : upd H t (.tup [.int (x / n), .int (x % n)]) a = some (.lst [.int x, .int y, .int z, .int u]) := by rw [upd_ne ta.symm]; exact hw
    refine ⟨t, _, rfl, SqT.of upd_same, rfl, .int (x / n), _, rfl, .ref a, rfl, a, _, 0, 0, rfl, rfl, h1, rfl, .int (x % n), _, rfl, ⟨rfl, .int (x % n), rfl, ?_⟩⟩
    refine q _ _ (Int.emod_nonneg _ (by omega)) (Int.emod_lt_of_pos _ n0) (kp_well (kp_new nt)) ⟨x / n, y, z, u, upd_same⟩
  · refine ⟨.ref a, rfl, a, _, 2, .int z, rfl, rfl, SqL.of hw, rfl, z, 1, rfl, rfl, .ref a, rfl, a, _, 2, 2, rfl, rfl, hw, rfl, ?_⟩
    generalize hH1 : upd H a _ = H1
    have w1 : H1 a = some (.lst [.int x, .int y, .int (z + 1), .int u]) := by rw [← hH1]; exact upd_same
    have k1 : Kp a H H1 := by rw [← hH1]; exact kp_well (Kp.refl a H)
    refine ⟨.ref a, rfl, a, _, 1, .int y, rfl, rfl, SqL.of w1, rfl, .ref a, rfl, a, _, 2, .int (z + 1), rfl, rfl, SqL.of w1, rfl, _, _, rfl, rfl, .inl ⟨by decide, by decide⟩, _, _, rfl, rfl, .inl ⟨_, rfl, _, _, rfl, rfl, (by show (0 : Int) < _; decide), ?_⟩⟩
    walk_at "rd"
    generalize hs : (_ : Int) % 2147483563 = sd
    have s0 : 0 ≤ sd := by rw [← hs]; exact Int.emod_nonneg _ (by decide)
    have s1 : sd < 2147483563 := by rw [← hs]; exact Int.emod_lt_of_pos _ (by decide)
    refine ⟨.int sd, rfl, .int sd, rfl, .inl ⟨sd, rfl, _, _, rfl, rfl, (by show (0 : Int) < _; decide), _, _, rfl, rfl, _, _, rfl, rfl, .inl ⟨by omega, by omega⟩, .ref a, rfl, a, _, 2, .int (z + 1), rfl, rfl, SqL.of w1, rfl, _, _, rfl, rfl, .inl ⟨by decide, by decide⟩, _, _, rfl, rfl, .inl ⟨_, rfl, _, _, rfl, rfl, (by show (0 : Int) < _; decide), ?_⟩⟩⟩
    walk_at "rd"
    refine ⟨.ref a, rfl, a, _, 1, 1, rfl, rfl, w1, rfl, ?_⟩
    generalize hy : (_ : Int) % 2147483563 = y2
    generalize hH2 : upd H1 a _ = H2
    have w2 : H2 a = some (.lst [.int x, .int y2, .int (z + 1), .int u]) := by rw [← hH2]; exact upd_same
    have k2 : Kp a H H2 := by rw [← hH2]; exact kp_well k1
    refine ⟨.ref a, rfl, a, _, 1, .int y2, rfl, rfl, SqL.of w2, rfl, _, _, rfl, rfl, ⟨by decide, by decide⟩, .inl ⟨_, rfl, .int n, rfl, _, _, rfl, rfl, n0, ?_⟩⟩
    exact q _ _ (Int.emod_nonneg _ (by omega)) (Int.emod_lt_of_pos _ n0) k2 ⟨x, y2, z + 1, u, w2⟩

theorem scPick : FnScope ["_law_well_here", "_law_some"] ["_law_well_here", "_law_some"] (defScope sPick) := ⟨rfl, rfl, rfl, by decide +kernel, rfl, by decide +kernel, by decide +kernel⟩
theorem ok_pick (D : Def K mg "_law_pick" sPick ["_law_well_here", "_law_some"]) (nb : Nb mg) (c1 : Cal P w K mg base "_law_draw" 1 ["_law_well_here", "_law_most"] spDraw) : Cal P w K mg base "_law_pick" 2 ["_law_well_here", "_law_some"] spPick := by
  refine D.ok scPick (fun vs H Q E h => ?_) (fun f cdv A out s H vs Q E hr h => ?_)
  · obtain ⟨a, p, xs, rfl, _⟩ := h; rfl
  obtain ⟨a, p, xs, rfl, hw, np, hp, ne, hl, q⟩ := h
  refine ⟨_, pss_one (ps_ret (pe_ix ix_tup (pv 1) (pe_cal c1 hr (Nat.le_refl 1) (by rfl) (pa_cons (pv 0) (pa_cons (pe_callB (id := "len") call_len_seq (by rfl) nb.len PySem.boot_len (pa_cons (pv 1) pa_nil)) pa_nil))) (fun _ _ => rfl))), ?_⟩
  walk_at "rd"
  have l0 : 0 < xs.length := List.length_pos_iff.mpr ne
  refine ⟨.ref p, rfl, .ref a, rfl, .ref p, rfl, p, xs, rfl, .inr (SqT.of hp), a, _, rfl, hw, by omega, by omega, fun d H1 d0 d1 k1 w1 => ?_⟩
  obtain ⟨m, rfl⟩ := Int.eq_ofNat_of_zero_le d0
  have hm : m < xs.length := by omega
  exact ⟨p, xs, _, xs[m], rfl, rfl, SqT.of (k1 _ _ np hp), atI_nat (List.getElem?_eq_getElem hm), q m _ H1 (List.getElem?_eq_getElem hm) k1 w1⟩
end
/-- a new well -/
def spWell (K : PySem.W.Frag) : Sp := fun vs H Q _ => ∃ (p : Addr) (ns : List Int) (k : Int), vs = [.ref p, .int k] ∧ SqL K H p (ns.map V.int) ∧ ns.length ≤ 63 ∧ 0 ≤ k ∧ ∀ a H', Same H H' → H a = none → Wl a H' → Q (.ref a) H'
def spLaw (K : PySem.W.Frag) : Sp := fun vs H Q _ => ∃ (p : Addr) (ns : List Int), vs = [.ref p] ∧ SqL K H p (ns.map V.int) ∧ ns.length ≤ 63 ∧ ∀ H', Q (.bl true) H'
section
variable {P : Program} {w : World} {K : PySem.W.Frag} {mg : Str → Option Value} {base : Heap}
theorem scWell : FnScope ["_law_script", "_law_lap", "_law_mixed", "_law_cell", "_law_own"] ["_law_script", "_law_lap"] (defScope sWell) := ⟨rfl, rfl, rfl, by decide +kernel, rfl, by decide +kernel, by decide +kernel⟩
theorem ok_well (D : Def K mg "_law_well" sWell ["_law_script", "_law_lap"]) (nb : Nb mg) : Cal P w K mg base "_law_well" 1 ["_law_script", "_law_lap"] (spWell K) := by
  refine D.ok scWell (fun vs H Q E h => ?_) (fun f cdv A out s H vs Q E hr h => ?_)
  · obtain ⟨p, ns, k, rfl, _⟩ := h; rfl
  obtain ⟨p, ns, k, rfl, hp, hl, k0, q⟩ := h
  refine ⟨_, pss_cons (ps_set (i := 2) scWell.nd rfl (Or.inl rfl) (pe_op op_add pe_int (pe_op op_mul pe_int (pv 1))))
    (pss_cons (ps_for PassesOwn.never rfl (pi_list (pe_slice sl_list (pv 0) po_none (po_some pe_int))) (pg_name (i := 3) scWell.nd rfl (Or.inl rfl))
        (pss_one (ps_set (i := 2) scWell.nd rfl (Or.inl rfl) (pe_op op_mod (pe_callTy (T := "int") call_int1 (by rfl) nb.int (by decide +kernel)
          (pa_cons (pe_op op_add (pe_op op_add (pe_op op_mul (pv 2) pe_int) (pe_op op_mod (pe_callTy (T := "int") call_int1 (by rfl) nb.int (by decide +kernel) (pa_cons (pv 3) pa_nil)) pe_int)) pe_int) pa_nil)) pe_int))))
    (Evl.pss_cut (ps_set (i := 4) scWell.nd rfl (Or.inl rfl) (pe_ifExp (pt_cmpR op_lt (pv 1) (pe_callB (id := "len") call_len_seq (by rfl) nb.len PySem.boot_len (pa_cons (pv 0) pa_nil)) (nomark _))
        (pe_callTy (T := "int") call_int1 (by rfl) nb.int (by decide +kernel) (pa_cons (pe_ix ix_list (pv 0) (pv 1) (fun _ _ => rfl)) pa_nil)) pe_int))
    (pss_cons (ps_set (i := 2) scWell.nd rfl (Or.inl rfl) (pe_op op_mod (pe_callTy (T := "int") call_int1 (by rfl) nb.int (by decide +kernel)
        (pa_cons (pe_op op_add (pe_op op_add (pe_op op_mul (pv 2) pe_int) (pe_op op_mul (pe_op op_mod (pe_callTy (T := "int") call_int1 (by rfl) nb.int (by decide +kernel) (pa_cons (pv 4) pa_nil)) pe_int) pe_int)) pe_int) pa_nil)) pe_int))
    (pss_one (ps_ret (pe_lst (pa_cons (pe_ifExp (PW.pt (pw_or (pt_cmpR op_lt (pv 4) pe_int (nomark _)) (pw_or1 (pt_cmpR op_ge (pv 4) (pe_op op_pow pe_int pe_int) (nomark _)))))
        (pe_callB (id := "abs") call_abs (by rfl) nb.abs (by decide +kernel) (pa_cons (pv 4) pa_nil)) pe_int) (pa_cons (pv 2) (pa_cons pe_int (pa_cons pe_int pa_nil)))))))))), ?_⟩
  walk_at "rd"
  refine ⟨.int k, rfl, _, _, rfl, rfl, .inl ⟨by decide, by decide⟩, _, _, rfl, rfl, .ref p, rfl, 63, rfl, p, _, rfl, hp, fun c nc => ?_⟩
  have s1 := same_new (o := .lst (L2.cutV (ns.map V.int) none (some 63))) nc
  have hc : upd H c (.lst (L2.cutV (ns.map V.int) none (some 63))) c = some (.lst (L2.cutV (ns.map V.int) none (some 63))) := upd_same
  generalize upd H c _ = H1 at s1 hc ⊢
  have hp1 : SqL K H1 p (ns.map V.int) := s1.seq hp
  refine ⟨c, rfl, ⟨_, SqL.of hc⟩, for_lst (xs := L2.cutV (ns.map V.int) none (some 63)) (fun i σ H' => ∃ (mx : Int) (x3 : Option V), σ = [some (.ref p), some (.int k), some (.int mx), x3, none] ∧ H' = H1) ⟨_, none, rfl, rfl⟩ (fun i σ' H' _ h => ?_) (fun i x σ' H' hx h => ?_) (fun σ' H' h => ?_)⟩
  · obtain ⟨mx, x3, rfl, rfl⟩ := h; exact SqL.of hc
  · obtain ⟨mx, x3, rfl, rfl⟩ := h
    obtain ⟨n, _, rfl⟩ : ∃ n, n ∈ ns ∧ V.int n = x := List.mem_map.mp (List.mem_of_mem_drop (List.mem_of_mem_take (List.mem_of_getElem? hx)))
    refine ⟨.int mx, rfl, _, _, rfl, rfl, .inr ⟨by decide, by decide⟩, .int n, rfl, .inl ⟨n, rfl, _, _, rfl, rfl, (by show (0 : Int) < _; decide), _, _, rfl, rfl, _, _, rfl, rfl, .inl ⟨_, rfl, _, _, rfl, rfl, (by show (0 : Int) < _; decide), ?_⟩⟩⟩
    exact ⟨_, some (.int n), rfl, rfl⟩
  · obtain ⟨mx, x3, rfl, rfl⟩ := h
    refine ⟨fun σ2 H2 => ∃ o : Int, σ2 = [some (.ref p), some (.int k), some (.int mx), x3, some (.int o)] ∧ H2 = H', ⟨.int k, rfl, .ref p, rfl, p, _, rfl, .inl hp1, _, _, rfl, rfl, _, rfl, ite2 (fun c1 => ?_) (fun c1 => ⟨0, rfl, rfl⟩)⟩, ?_⟩
    · have c1 := of_decide_eq_true c1
      rw [List.length_map] at c1
      obtain ⟨j, rfl⟩ := Int.eq_ofNat_of_zero_le k0
      have hj : j < ns.length := by omega
      refine ⟨.ref p, rfl, .int j, rfl, p, _, j, .int ns[j], rfl, rfl, hp1, atI_nat (by rw [List.getElem?_map, List.getElem?_eq_getElem hj]; rfl), .inl ⟨_, rfl, ns[j], rfl, rfl⟩⟩
    · rintro σ2 H2 ⟨o, rfl, rfl⟩
      refine ⟨.int mx, rfl, _, _, rfl, rfl, .inr ⟨by decide, by decide⟩, .int o, rfl, .inl ⟨o, rfl, _, _, rfl, rfl, (by show (0 : Int) < _; decide), _, _, rfl, rfl, .inr ⟨by decide, by decide⟩, _, _, rfl, rfl, _, _, rfl, rfl, .inl ⟨_, rfl, _, _, rfl, rfl, (by show (0 : Int) < _; decide), ?_⟩⟩⟩
      have fin : ∀ x y : Int, [V.int x, .int y, .int 0, .int 0].length ≤ sizeLine ∧ ∀ a, H2 a = none → Q (.ref a) (upd H2 a (.lst [.int x, .int y, .int 0, .int 0])) := fun x y => ⟨sz (by simp), fun a na => q a _ (s1.trans (same_new na)) (s1.free na) ⟨_, _, _, _, upd_same⟩⟩
      refine ⟨.int o, rfl, _, _, rfl, rfl, _, rfl, ite2 (fun c1 => ?_) (fun c1 => ?_)⟩
      · exact iteT ⟨.int o, rfl, o, rfl, _, rfl, fin _ _⟩
      · refine ⟨.int o, rfl, _, _, rfl, rfl, ⟨by decide, by decide, by decide⟩, _, _, rfl, rfl, _, rfl, ite2 (fun c2 => ?_) (fun c2 => ?_)⟩
        · exact ⟨.int o, rfl, o, rfl, _, rfl, fin _ _⟩
        · exact ⟨_, rfl, fin _ _⟩

/-- a short text of plain signs -/
def Sm (n : Nat) (z : Str) : Prop := z.length ≤ n ∧ ∀ c ∈ cd z, c < 128
theorem Sm.len {n : Nat} {z : Str} (h : Sm n z) : z.length ≤ n := h.1
theorem Sm.app {n m : Nat} {z y : Str} (h : Sm n z) (g : Sm m y) : Sm (n + m) (z ++ y) := by
  have e : cd (z ++ y) = cd z ++ cd y := Array.toList_append
  refine ⟨?_, fun c hc => ?_⟩
  · have h1 := h.1
    have g1 := g.1
    rw [← cd_len] at h1 g1 ⊢
    rw [e, List.length_append]
    omega
  · rw [e] at hc
    rcases List.mem_append.mp hc with hc | hc
    · exact h.2 c hc
    · exact g.2 c hc
theorem Sm.one {z : Str} {n c : Nat} (h : Sm n z) (hc : c ∈ cd z) : Sm 1 ⟨#[c]⟩ := ⟨Nat.le_refl 1, fun x hx => by
  have : x = c := by simpa [cd] using hx
  rw [this]; exact h.2 c hc⟩
theorem Sm.mono {n m : Nat} {z : Str} (h : Sm n z) (l : n ≤ m) : Sm m z := ⟨Nat.le_trans h.1 l, h.2⟩
instance {n : Nat} {z : Str} : Decidable (Sm n z) := by unfold Sm; infer_instance
/-- a sign of a text at a drawn place -/
theorem sign_at {z : Str} {d : Int} (d0 : 0 ≤ d) (d1 : d < (z.length : Int)) : ∃ c, atI (cd z) d = some c ∧ c ∈ cd z := by
  obtain ⟨m, rfl⟩ := Int.eq_ofNat_of_zero_le d0
  have l := cd_len z
  have hm : m < (cd z).length := by omega
  exact ⟨(cd z)[m], atI_nat (List.getElem?_eq_getElem hm), List.getElem_mem hm⟩
def keptV : List V := [.str "x", .str "y", .str "true", .str "false", .str "not", .str "all", .str "some", .str "let"]
def spKept : Sp := fun vs H Q _ => vs = [] ∧ ∀ p H', Same H H' → H p = none → H' p = some (.tup keptV) → Q (.ref p) H'
def spName : Sp := fun vs H Q _ => ∃ a, vs = [.ref a] ∧ Wl a H ∧ ∀ z H', Kp a H H' → Wl a H' → Sm 5 z → Q (.str z) H'
section
variable {X : Cx} {k j : Nat} {ps : List Str} {sp : Sp} {x : Str} {p pos : Pos}
/-- f() -/
theorem pe_cal0 (C : Cal X.prog X.w X.K X.mg X.base x j ps sp) (hr : Room k X.A) (hj : j ≤ k) (hg : Gl X x) (hdb : (x == ("__debug__" : Str)) = false := by decide) :
    PE X (.Call (.Name x p) [] [] pos) (tCall sp [] E0 tNil) := by
  obtain ⟨f, fd, F, m, kp, b, _⟩ := C
  exact pe_call0 F (hr.mono hj) hg m kp b .nil pass0 hdb
end
section
variable {P : Program} {w : World} {K : PySem.W.Frag} {mg : Str → Option Value} {base : Heap}
theorem scKept : FnScope [] [] (defScope sKept) := ⟨rfl, rfl, rfl, by decide +kernel, rfl, by decide +kernel, by decide +kernel⟩
theorem ok_kept (D : Def K mg "_law_kept" sKept []) : Cal P w K mg base "_law_kept" 1 [] spKept := by
  refine D.ok scKept (fun vs H Q E h => ?_) (fun f cdv A out s H vs Q E hr h => ?_)
  · obtain ⟨rfl, _⟩ := h; rfl
  obtain ⟨rfl, q⟩ := h
  refine ⟨_, pss_one (ps_ret (pe_tup (pa_cons pe_str (pa_cons pe_str (pa_cons pe_str (pa_cons pe_str (pa_cons pe_str (pa_cons pe_str (pa_cons pe_str (pa_cons pe_str pa_nil)))))))))), ?_⟩
  walk_at "rd"
  exact ⟨sz (by simp), fun p np => q p _ (same_new np) np upd_same⟩
theorem scName : FnScope ["_law_well_here", "_law_az", "_law_found", "_law_lap"] ["_law_well_here"] (defScope sName) := ⟨rfl, rfl, rfl, by decide +kernel, rfl, by decide +kernel, by decide +kernel⟩
theorem ok_name (D : Def K mg "_law_name" sName ["_law_well_here"]) (nb : Nb mg) (c1 : Cal P w K mg base "_law_draw" 1 ["_law_well_here", "_law_most"] spDraw) (c2 : Cal P w K mg base "_law_kept" 1 [] spKept) : Cal P w K mg base "_law_name" 2 ["_law_well_here"] spName := by
  refine D.ok scName (fun vs H Q E h => ?_) (fun f cdv A out s H vs Q E hr h => ?_)
  · obtain ⟨a, rfl, _⟩ := h; rfl
  obtain ⟨a, rfl, hw, q⟩ := h
  refine ⟨_, pss_cons (ps_set (i := 1) scName.nd rfl (Or.inl rfl) pe_str)
    (pss_cons (ps_set (i := 2) scName.nd rfl (Or.inl rfl) (pe_ix ix_str (pv 1) (pe_cal c1 hr (by decide) (by rfl) (pa_cons (pv 0) (pa_cons pe_int pa_nil))) (fun _ _ => rfl)))
    (pss_cons (ps_for PassesOwn.never rfl (pi_range1 (by rfl) nb.rng (pa_cons (pe_cal c1 hr (by decide) (by rfl) (pa_cons (pv 0) (pa_cons pe_int pa_nil))) pa_nil)) (pg_name (i := 3) scName.nd rfl (Or.inl rfl))
      (pss_one (ps_set (i := 2) scName.nd rfl (Or.inl rfl) (pe_op op_add_str (pv 2) (pe_ix ix_str (pe_op op_add_str (pv 1) pe_str) (pe_cal c1 hr (by decide) (by rfl) (pa_cons (pv 0) (pa_cons pe_int pa_nil))) (fun _ _ => rfl))))))
    (pss_one (ps_ret (pe_ifExp (pt_cmpR op_in_seq (pv 2) (pe_cal0 c2 hr (by decide) (by rfl)) (by rfl)) (pe_op op_add_str (pv 2) pe_str) (pv 2)))))), ?_⟩
  walk_at "rd"
  have saz : Sm 26 "abcdefghijklmnopqrstuvwxyz" := by decide +kernel
  have smo : Sm 37 (("abcdefghijklmnopqrstuvwxyz" : Str) ++ ("0123456789_" : Str)) := by decide +kernel
  refine ⟨_, rfl, .ref a, rfl, a, 26, rfl, hw, by decide, by decide, fun d H1 d0 d1 k1 w1 => ?_⟩
  obtain ⟨c, e1, m1⟩ := sign_at (z := "abcdefghijklmnopqrstuvwxyz") d0 d1
  refine ⟨_, _, c, rfl, rfl, sz (by decide), e1, .ref a, rfl, a, 4, rfl, w1, by decide, by decide, fun n H2 n0 n1 k2 w2 => ?_⟩
  refine ⟨n, rfl, by omega, by omega, for_rng (lo := 0) (n := n.toNat) (fun i σ H' => ∃ (x3 : Option V) (z : Str), σ = [some (.ref a), some (.str "abcdefghijklmnopqrstuvwxyz"), some (.str z), x3] ∧ Kp a H H' ∧ Wl a H' ∧ Sm (1 + i) z) ?_ ?_ ?_⟩
  · exact ⟨none, _, rfl, k1.trans k2, w2, saz.one m1⟩
  · rintro i σ H3 hi ⟨x3, z, rfl, k3, w3, hz⟩
    refine ⟨.str z, rfl, .str _, rfl, _, _, rfl, rfl, sz (by decide), .ref a, rfl, a, 37, rfl, w3, by decide, by decide, fun d H4 d0 d1 k4 w4 => ?_⟩
    obtain ⟨c, e1, m1⟩ := sign_at (z := ("abcdefghijklmnopqrstuvwxyz" : Str) ++ ("0123456789_" : Str)) d0 d1
    have hl := hz.len
    exact ⟨_, _, c, rfl, rfl, sz (by decide +kernel), e1, _, _, rfl, rfl, sz (by show z.length + 1 ≤ _; omega), some (.int (0 + (i : Int))), _, rfl, k3.trans k4, w4, (hz.app (smo.one m1)).mono (by omega)⟩
  · rintro σ H3 ⟨x3, z, rfl, k3, w3, hz⟩
    have hl := hz.len
    refine ⟨.str z, rfl, rfl, fun p H4 s4 np hp => ?_⟩
    have q0 : ∀ y, Sm 5 y → Q (.str y) H4 := fun y hy => q y H4 (k3.trans (Kp.of s4)) (w3.to s4) hy
    have h4 : Sm 4 z := hz.mono (by omega)
    refine ⟨p, keptV, rfl, .inr (SqT.of hp), rfl, rfl, _, rfl, ite2 (fun _ => ?_) (fun _ => ?_)⟩
    · exact ⟨.str z, rfl, _, _, rfl, rfl, sz (by show z.length + 1 ≤ _; omega), q0 _ (h4.app (show Sm 1 "_" by decide +kernel))⟩
    · exact ⟨_, rfl, q0 _ (h4.mono (by decide))⟩
end
end
end K53

set_option Elab.async false
set_option linter.all false
set_option maxRecDepth 100000
set_option maxHeartbeats 8000000
local macro_rules | `(tactic| walk_at "rd") => `(tactic| dsimp only [Evl.tCut, L2.tSeq, L2.tNext, L2.tRet, L2.tRetN, L2.tAsg, L2.gName, L2.tIfS, L2.tDrop, L2.tCons, L2.tNil, L2.tC, L2.tVar, L2.tCB, L2.tAndV, L2.tOrV, L2.tNotV, L2.tB, L2.tTest, L2.tOp, L2.tUn, L2.tNot, L2.tAnd, L2.tOr, L2.tIf, L2.tCall, L2.tTup, L2.tLst, L2.tNotT, L2.tYes, L2.gTup, L2.gCons, L2.gNil, L2.gSub, L2.tBM0, L2.tBM, L2.tWhile, L2.tFor, L2.iRng1, L2.iRng2, L2.tAugS, Tw.iEnumT, L2.tCKw, L2.tAug, L2.ipI, RT.iRevA, L2.tPar, L2.tPar3, L2.tSl, L2.tNoPart, L2.tPart, Tw.tRevT])
namespace K53
open PySem PySem.Spec PyProof.Rows L2 Tw
section
variable {X : Cx}
theorem op_mul_str : OpR X (binaryOp .Mult) (fun x y H Q => ∃ (i : Str) (n : Int), x = .str i ∧ y = .int n ∧ PySem.MulOk i n ∧ Q (.str (Txt.mul i n)) H) := by
  intro pins s σ H x y v u Q I rx ry h
  obtain ⟨i, n, rfl, rfl, hz, q⟩ := h
  obtain ⟨t, rfl⟩ := rx
  obtain ⟨t', rfl⟩ := ry
  exact PySem.SB.mul hz (fun t' tk => ⟨.str _, H, I.tok _, ⟨_, rfl⟩, q⟩)
end
theorem fold_mem {a : Array Nat} {c : Nat} : ∀ (k : Nat) (acc : Array Nat), c ∈ ((List.replicate k a).foldl (· ++ ·) acc).toList → c ∈ acc.toList ∨ c ∈ a.toList
  | 0, acc, h => Or.inl h
  | k + 1, acc, h => by
    rw [List.replicate_succ, List.foldl_cons] at h
    rcases fold_mem k _ h with h | h
    · rw [Array.toList_append] at h
      exact List.mem_append.mp h
    · exact Or.inr h
theorem Sm.mul {z : Str} {n : Int} {L N : Nat} (h : Sm L z) (hn : n ≤ (N : Int)) : Sm (L * N) (Txt.mul z n) := by
  refine ⟨PyProof.Rows.len_mul_leN h.1 hn, fun c hc => ?_⟩
  unfold Txt.mul at hc
  by_cases h1 : n < 1
  · rw [if_pos h1] at hc
    simp [cd, Str.empty] at hc
  · rw [if_neg h1] at hc
    split at hc
    · exact h.2 c hc
    · rcases fold_mem _ _ hc with h2 | h2
      · simp at h2
      · exact h.2 c h2
theorem Sm.int {d : Int} (d0 : 0 ≤ d) (d1 : d < 10000) : Sm 4 ((toString d : String) : Str) := by
  refine ⟨PyProof.Rows.toString_length_le d0 (by decide) (by omega), fun c hc => ?_⟩
  by_cases h : c < 128
  · exact h
  · exact absurd hc (PyProof.Rows.int_text_free' c ⟨by omega, by omega⟩ d)
theorem str_of {zs : List Str} {i : Nat} {x : V} (h : (zs.map V.str)[i]? = some x) : ∃ z, z ∈ zs ∧ x = .str z := by
  obtain ⟨z, hz, e⟩ := List.mem_map.mp (List.mem_of_getElem? h)
  exact ⟨z, hz, e.symm⟩
theorem int_of {zs : List Int} {i : Nat} {x : V} (h : (zs.map V.int)[i]? = some x) : ∃ z, z ∈ zs ∧ x = .int z := by
  obtain ⟨z, hz, e⟩ := List.mem_map.mp (List.mem_of_getElem? h)
  exact ⟨z, hz, e.symm⟩
theorem lgi {e : Int} (h : e.natAbs < 10000) : e.natAbs.log2 < 1920 := by
  by_cases z : e.natAbs = 0
  · rw [z]; decide
  · rw [Nat.log2_lt z]
    exact Nat.lt_of_lt_of_le h (Nat.le_trans (by decide : 10000 ≤ 2 ^ 14) (Nat.pow_le_pow_right (by decide) (by decide)))
def spPiece : Sp := fun vs H Q _ => ∃ a, vs = [.ref a] ∧ Wl a H ∧ ∀ z H', Kp a H H' → Wl a H' → Sm 802 z → Q (.str z) H'
def spText : Sp := fun vs H Q _ => ∃ a, vs = [.ref a] ∧ Wl a H ∧ ∀ z H', Kp a H H' → Wl a H' → Sm 1801 z → Q (.str z) H'
section
variable {P : Program} {w : World} {K : PySem.W.Frag} {mg : Str → Option Value} {base : Heap}
theorem scPiece : FnScope ["_law_well_here", "_law_signs", "_law_kind"] ["_law_well_here"] (defScope sPiece) := ⟨rfl, rfl, rfl, by decide +kernel, rfl, by decide +kernel, by decide +kernel⟩
theorem ok_piece (D : Def K mg "_law_piece" sPiece ["_law_well_here"]) (nb : Nb mg) (c1 : Cal P w K mg base "_law_draw" 1 ["_law_well_here", "_law_most"] spDraw) (c2 : Cal P w K mg base "_law_pick" 2 ["_law_well_here", "_law_some"] spPick) (c3 : Cal P w K mg base "_law_kept" 1 [] spKept) (c4 : Cal P w K mg base "_law_name" 2 ["_law_well_here"] spName) : Cal P w K mg base "_law_piece" 3 ["_law_well_here"] spPiece := by
  refine D.ok scPiece (fun vs H Q E h => ?_) (fun f cdv A out s H vs Q E hr h => ?_)
  · obtain ⟨a, rfl, _⟩ := h; rfl
  obtain ⟨a, rfl, hw, q⟩ := h
  refine ⟨_, pss_cons (ps_set (i := 1) scPiece.nd rfl (Or.inl rfl) pe_str)
    (pss_cons (ps_set (i := 2) scPiece.nd rfl (Or.inl rfl) (pe_cal c1 hr (by decide) (by rfl) (pa_cons (pv 0) (pa_cons pe_int pa_nil))))
    (pss_cons (ps_if (pt_cmpR op_lt (pv 2) pe_int (nomark _)) (pss_one (ps_ret (pe_ix ix_str (pv 1) (pe_cal c1 hr (by decide) (by rfl) (pa_cons (pv 0) (pa_cons (pe_callB (id := "len") call_len_str (by rfl) nb.len PySem.boot_len (pa_cons (pv 1) pa_nil)) pa_nil))) (fun _ _ => rfl)))) pss_nil)
    (pss_cons (ps_if (pt_cmpR op_lt (pv 2) pe_int (nomark _)) (pss_one (ps_ret (pe_cal c4 hr (by decide) (by rfl) (pa_cons (pv 0) pa_nil)))) pss_nil)
    (pss_cons (ps_if (pt_cmpR op_lt (pv 2) pe_int (nomark _)) (pss_one (ps_ret (pe_callTy (T := "str") call_str_int (by rfl) nb.str (by decide +kernel) (pa_cons (pe_cal c1 hr (by decide) (by rfl) (pa_cons (pv 0) (pa_cons pe_int pa_nil))) pa_nil)))) pss_nil)
    (pss_cons (ps_if (pt_cmpR op_lt (pv 2) pe_int (nomark _)) (pss_one (ps_ret (pe_cal c2 hr (by decide) (by rfl) (pa_cons (pv 0) (pa_cons (pe_cal0 c3 hr (by decide) (by rfl)) pa_nil))))) pss_nil)
    (pss_cons (ps_if (pt_cmpR op_lt (pv 2) pe_int (nomark _)) (pss_one (ps_ret (pe_cal c2 hr (by decide) (by rfl) (pa_cons (pv 0) (pa_cons (pe_tup (pa_cons pe_str (pa_cons pe_str (pa_cons pe_str (pa_cons pe_str (pa_cons pe_str (pa_cons pe_str (pa_cons pe_str (pa_cons pe_str pa_nil))))))))) pa_nil))))) pss_nil)
    (pss_cons (ps_if (pt_cmpR op_lt (pv 2) pe_int (nomark _)) (pss_one (ps_ret (pe_ix ix_tup (pe_tup (pa_cons pe_str (pa_cons pe_str (pa_cons pe_str (pa_cons pe_str pa_nil))))) (pe_op op_sub (pv 2) pe_int) (fun _ _ => rfl)))) pss_nil)
    (pss_one (ps_ret (pe_op op_mul_str (pe_cal c2 hr (by decide) (by rfl) (pa_cons (pv 0) (pa_cons (pe_tup (pa_cons pe_str (pa_cons pe_str (pa_cons pe_str (pa_cons pe_str pa_nil))))) pa_nil))) (pe_cal c2 hr (by decide) (by rfl) (pa_cons (pv 0) (pa_cons (pe_tup (pa_cons pe_int (pa_cons pe_int (pa_cons pe_int (pa_cons pe_int (pa_cons pe_int (pa_cons pe_int pa_nil))))))) pa_nil))))))))))))), ?_⟩
  walk_at "rd"
  refine ⟨.ref a, rfl, a, 33, rfl, hw, by decide, by decide, fun d H1 d0 d1 k1 w1 => ?_⟩
  refine ⟨.int d, rfl, _, _, rfl, rfl, _, rfl, ite2 (fun c => ?_) (fun c => ?_)⟩
  · refine ⟨_, rfl, .ref a, rfl, _, rfl, _, rfl, sz (by decide), a, _, rfl, w1, by decide, by decide, fun e H2 e0 e1 k2 w2 => ?_⟩
    obtain ⟨cc, a1, m1⟩ := sign_at e0 e1
    exact ⟨_, _, cc, rfl, rfl, sz (by decide), a1, q _ _ (k1.trans k2) w2 (Sm.mono (Sm.one (n := 100) (by decide +kernel) m1) (by decide))⟩
  refine ⟨.int d, rfl, _, _, rfl, rfl, _, rfl, ite2 (fun c => ?_) (fun c => ?_)⟩
  · exact ⟨.ref a, rfl, a, rfl, w1, fun z H2 k2 w2 hz => q z H2 (k1.trans k2) w2 (hz.mono (by decide))⟩
  refine ⟨.int d, rfl, _, _, rfl, rfl, _, rfl, ite2 (fun c => ?_) (fun c => ?_)⟩
  · refine ⟨.ref a, rfl, a, _, rfl, w1, by decide, by decide, fun e H2 e0 e1 k2 w2 => ?_⟩
    exact ⟨e, rfl, lgi (by omega), q _ _ (k1.trans k2) w2 ((Sm.int e0 e1).mono (by decide))⟩
  refine ⟨.int d, rfl, _, _, rfl, rfl, _, rfl, ite2 (fun c => ?_) (fun c => ?_)⟩
  · refine ⟨.ref a, rfl, rfl, fun p H2 s2 np hp => ?_⟩
    refine ⟨a, p, keptV, rfl, w1.to s2, w1.ne np, hp, by simp [keptV], by simp [keptV], fun i x H3 e k3 w3 => ?_⟩
    obtain ⟨z, hz, rfl⟩ := str_of (zs := ["x", "y", "true", "false", "not", "all", "some", "let"]) e
    exact q z H3 ((k1.trans (Kp.of s2)).trans k3) w3 (Sm.mono ((by decide +kernel : ∀ z ∈ ([("x" : Str), "y", "true", "false", "not", "all", "some", "let"] : List Str), Sm 9 z) z hz) (by decide))
  refine ⟨.int d, rfl, _, _, rfl, rfl, _, rfl, ite2 (fun c => ?_) (fun c => ?_)⟩
  · refine ⟨.ref a, rfl, sz (by simp), fun p np => ⟨a, p, _, rfl, w1.to (same_new np), w1.ne np, upd_same, by simp, by simp, fun i x H2 e k2 w2 => ?_⟩⟩
    obtain ⟨z, hz, rfl⟩ := str_of (zs := ["<=", ">=", "!=", "<", ">", "!", "=", "<=="]) e
    exact q z H2 ((k1.trans (kp_new np)).trans k2) w2 (Sm.mono ((by decide +kernel : ∀ z ∈ ([("<=" : Str), ">=", "!=", "<", ">", "!", "=", "<=="] : List Str), Sm 9 z) z hz) (by decide))
  refine ⟨.int d, rfl, _, _, rfl, rfl, _, rfl, ite2 (fun c => ?_) (fun c => ?_)⟩
  · refine ⟨sz (by simp), fun p np => ?_⟩
    have c := of_decide_eq_true c
    rename_i c2' c32
    have c7 : ¬ (d < 28) := fun z => c2' (decide_eq_true z)
    obtain ⟨j, hj⟩ := Int.eq_ofNat_of_zero_le (show 0 ≤ d - 28 by omega)
    have j4 : j < ([(" " : Str), "  ", "
", "# x y_1 <= 9
"].map V.str).length := by simp; omega
    obtain ⟨z, hz, ez⟩ := str_of (List.getElem?_eq_getElem j4)
    have e4 := List.getElem?_eq_getElem j4
    rw [ez] at e4
    refine ⟨.int d, rfl, _, _, rfl, rfl, p, _, d - 28, .str z, rfl, rfl, SqT.of upd_same, ?_, q z _ (k1.trans (kp_new np)) (w1.to (same_new np)) (Sm.mono ((by decide +kernel : ∀ z ∈ ([(" " : Str), "  ", "
", "# x y_1 <= 9
"] : List Str), Sm 15 z) z hz) (by decide))⟩
    rw [hj]
    exact atI_nat e4
  refine ⟨.ref a, rfl, sz (by simp), fun p np => ⟨a, p, _, rfl, w1.to (same_new np), w1.ne np, upd_same, by simp, by simp, fun i x H2 e k2 w2 => ?_⟩⟩
  obtain ⟨z, hz, rfl⟩ := str_of (zs := ["a", "7", "_", "z9"]) e
  have sz2 : Sm 2 z := (by decide +kernel : ∀ z ∈ ([("a" : Str), "7", "_", "z9"] : List Str), Sm 2 z) z hz
  refine ⟨.ref a, rfl, sz (by simp), fun p2 np2 => ⟨a, p2, _, rfl, w2.to (same_new np2), w2.ne np2, upd_same, by simp, by simp, fun j y H3 e3 k3 w3 => ?_⟩⟩
  obtain ⟨n, hn, rfl⟩ := int_of (zs := [24, 25, 12, 100, 101, 401]) e3
  have nb2 := (by decide : ∀ n ∈ ([24, 25, 12, 100, 101, 401] : List Int), 12 ≤ n ∧ n ≤ 401) n hn
  exact ⟨z, n, rfl, rfl, PyProof.Rows.mulOk_of 2 401 sz2.1 (by omega) (by omega) (by decide) (by decide), q _ _ ((k1.trans (kp_new np)).trans ((k2.trans (kp_new np2)).trans k3)) w3 (sz2.mul (N := 401) (by omega))⟩
theorem scText : FnScope ["_law_well_here", "_law_text_here", "_law_lap"] ["_law_well_here"] (defScope sText) := ⟨rfl, rfl, rfl, by decide +kernel, rfl, by decide +kernel, by decide +kernel⟩
theorem ok_text (D : Def K mg "_law_text" sText ["_law_well_here"]) (nb : Nb mg) (c1 : Cal P w K mg base "_law_draw" 1 ["_law_well_here", "_law_most"] spDraw) (c2 : Cal P w K mg base "_law_piece" 3 ["_law_well_here"] spPiece) : Cal P w K mg base "_law_text" 4 ["_law_well_here"] spText := by
  refine D.ok scText (fun vs H Q E h => ?_) (fun f cdv A out s H vs Q E hr h => ?_)
  · obtain ⟨a, rfl, _⟩ := h; rfl
  obtain ⟨a, rfl, hw, q⟩ := h
  refine ⟨_, pss_cons (ps_set (i := 1) scText.nd rfl (Or.inl rfl) pe_str)
    (pss_cons (ps_for PassesOwn.never rfl (pi_range1 (by rfl) nb.rng (pa_cons (pe_cal c1 hr (by decide) (by rfl) (pa_cons (pv 0) (pa_cons pe_int pa_nil))) pa_nil)) (pg_name (i := 2) scText.nd rfl (Or.inl rfl))
      (pss_one (ps_set (i := 1) scText.nd rfl (Or.inl rfl) (pe_ifExp (pt_cmpR op_lt (pe_callB (id := "len") call_len_str (by rfl) nb.len PySem.boot_len (pa_cons (pv 1) pa_nil)) pe_int (nomark _)) (pe_op op_add_str (pv 1) (pe_cal c2 hr (by decide) (by rfl) (pa_cons (pv 0) pa_nil))) (pv 1)))))
    (pss_one (ps_ret (pv 1)))), ?_⟩
  walk_at "rd"
  refine ⟨.ref a, rfl, a, 61, rfl, hw, by decide, by decide, fun n H1 n0 n1 k1 w1 => ?_⟩
  refine ⟨n, rfl, by omega, by omega, for_rng (lo := 0) (n := n.toNat) (fun i σ H' => ∃ (x2 : Option V) (z : Str), σ = [some (.ref a), some (.str z), x2] ∧ Kp a H H' ∧ Wl a H' ∧ Sm 1801 z) ?_ ?_ ?_⟩
  · exact ⟨none, "", rfl, k1, w1, by decide +kernel⟩
  · rintro i σ H3 hi ⟨x3, z, rfl, k3, w3, hz⟩
    have hl := hz.len
    refine ⟨.str z, rfl, z, rfl, sz (by omega), _, _, rfl, rfl, _, rfl, ite2 (fun c => ?_) (fun c => ?_)⟩
    · have c := of_decide_eq_true c
      refine ⟨.str z, rfl, .ref a, rfl, a, rfl, w3, fun y H4 k4 w4 hy => ?_⟩
      have hy1 := hy.len
      exact ⟨_, _, rfl, rfl, sz (by omega), _, _, rfl, k3.trans k4, w4, (Sm.app (n := 999) ⟨by omega, hz.2⟩ hy).mono (by decide)⟩
    · exact ⟨_, rfl, _, z, rfl, k3, w3, hz⟩
  · rintro σ H3 ⟨x3, z, rfl, k3, w3, hz⟩
    exact ⟨_, rfl, q z H3 k3 w3 hz⟩
end
end K53

set_option Elab.async false
set_option linter.all false
set_option maxRecDepth 100000
set_option maxHeartbeats 8000000
local macro_rules | `(tactic| walk_at "rd") => `(tactic| dsimp only [Evl.tCut, L2.tSeq, L2.tNext, L2.tRet, L2.tRetN, L2.tAsg, L2.gName, L2.tIfS, L2.tDrop, L2.tCons, L2.tNil, L2.tC, L2.tVar, L2.tCB, L2.tAndV, L2.tOrV, L2.tNotV, L2.tB, L2.tTest, L2.tOp, L2.tUn, L2.tNot, L2.tAnd, L2.tOr, L2.tIf, L2.tCall, L2.tTup, L2.tLst, L2.tNotT, L2.tYes, L2.gTup, L2.gCons, L2.gNil, L2.gSub, L2.tBM0, L2.tBM, L2.tWhile, L2.tFor, L2.iRng1, L2.iRng2, L2.tAugS, Tw.iEnumT, L2.tCKw, L2.tAug, L2.ipI, RT.iRevA, L2.tPar, L2.tPar3, L2.tSl, L2.tNoPart, L2.tPart, Tw.tRevT])
namespace K53
open PySem PySem.Spec PyProof.Rows L2 Tw
theorem lc_str {f : Nat → V} {wi : TI} {j : Nat} {elt : TE} {vs : List Nat} {σ : L2.St} {H : Hp} {Q : VK} {x : Str} (hi : ∀ R : It → Hp → Prop, R (Its x) H → wi σ H R) (hn : x.length < 100000)
    (hw : ∀ v, wipe ((wipe σ vs).set j (some v)) vs = wipe σ vs)
    (he : ∀ c H1, c ∈ cd x → Same H H1 → ∀ R : VK, R (f c) H1 → elt ((wipe σ vs).set j (some (.str ⟨#[c]⟩))) H1 R)
    (q : ∀ D H', Same H H' → H D = none → H' D = some (.lst ((cd x).map f)) → Q (.ref D) H') : tLc wi (gName j) tYes elt vs σ H Q := by
  have l := cd_len x
  refine hi _ fun D hD => ⟨fun i m H' => m = x.length - i ∧ i ≤ x.length ∧ Same H H' ∧ H' D = some (.lst (((cd x).take i).map f)), ⟨x.length, rfl, Nat.zero_le _, same_new hD, upd_same⟩, ?_⟩
  rintro i m H1 ⟨rfl, il, s1, e1⟩
  by_cases c : i < x.length
  · refine Or.inr ⟨c, fun H' => Same H H' ∧ H' D = some (.lst (((cd x).take (i + 1)).map f)), fun H' h => ⟨x.length - (i + 1), by omega, rfl, c, h.1, h.2⟩, fun v H' y => ?_⟩
    obtain ⟨rfl, cc, ec, rfl⟩ := y
    have ec' : (cd x)[i]? = some cc := by rw [Array.getElem?_toList]; exact ec
    refine ⟨hw _, ?_⟩
    unfold tYes
    simp only [if_true]
    refine he cc _ (List.mem_of_getElem? ec') s1 _ ⟨_, e1, ?_, same_upd s1 hD, ?_⟩
    · rw [List.length_map, List.length_take]; exact lt_line (by omega)
    · rw [upd_same, take_map f ec']
  · have e : i = x.length := by omega
    refine Or.inl ⟨by show x.cps.size ≤ i; have : x.cps.size = x.length := rfl; omega, q D H1 s1 hD ?_⟩
    rw [e1, List.take_of_length_le (by omega)]
theorem run_all {p : Nat → Bool} : ∀ cs : List Nat, decide (run p cs = cs.length) = cs.all p
  | [] => rfl
  | c :: r => by
    have := run_le p r
    rw [run, List.all_cons, List.length_cons, ← run_all r]
    cases p c with
    | true => rw [if_pos rfl, Bool.true_and, decide_eq_decide]; omega
    | false => rw [if_neg (by decide), Bool.false_and, decide_eq_false_iff_not]; omega
theorem headD_get {cs : List Nat} (h : 0 < cs.length) : cs.headD 0 = cs[0] := by
  cases cs with
  | nil => simp at h
  | cons c r => rfl
def nameB (z : Str) : Bool := if decide (z.length = 0) || decide (24 < z.length) || inV (.str z) keptV then false else isS ((cd z).headD 0) && (cd z).all isN
def nmB : PyData → Bool
  | .str z => nameB z
  | _ => false
theorem nm_none {d : PyData} (h : isStrD d = false) : nmB d = false := by
  cases d <;> first | rfl | cases h
theorem str_da {a : Addr} {H : Hp} {v : V} {d : PyData} (h : Da a H v d) (e : isStrD d = true) : ∃ z, d = .str z ∧ v = .str z := by
  cases h <;> first | exact ⟨_, rfl, rfl⟩ | cases e
theorem empty_eq (z : Str) : decide (V.str z = V.str "") = decide (z.length = 0) := by
  rw [decide_eq_decide]
  constructor
  · intro e; rw [V.str.inj e]; rfl
  · intro e
    refine congrArg V.str (str_ext ?_)
    have l := cd_len z
    rw [List.eq_nil_of_length_eq_zero (by omega : (cd z).length = 0)]
    rfl
def spNm : Sp := fun vs H Q _ => ∃ (a : Addr) (v : V) (d : PyData), vs = [v] ∧ Da a H v d ∧ (∀ z, d = .str z → z.length ≤ 50000) ∧ ∀ H', Same H H' → Q (.bl (nmB d)) H'
section
variable {P : Program} {w : World} {K : PySem.W.Frag} {mg : Str → Option Value} {base : Heap}
theorem scFree : FnScope ["value"] ["value"] (defScope sFree) := ⟨rfl, rfl, rfl, by decide +kernel, rfl, by decide +kernel, by decide +kernel⟩
theorem ok_free (D : Def K mg "is_free_name" sFree ["value"]) (nb : Nb mg) (cs : Cs K mg) (c1 : Cal P w K mg base "end_of_run" 1 ["text", "at", "signs"] spRun) : Cal P w K mg base "is_free_name" 2 ["value"] spNm := by
  refine D.ok scFree (fun vs H Q E h => ?_) (fun f cdv A out s H vs Q E hr h => ?_)
  · obtain ⟨a, v, d, rfl, _⟩ := h; rfl
  obtain ⟨a, v, d, rfl, hd, hz, q⟩ := h
  obtain ⟨tsml, hsml⟩ := cs.sml
  obtain ⟨tinn, hinn⟩ := cs.inn
  obtain ⟨tlng, hlng⟩ := cs.lng
  obtain ⟨pp, hpp, hps⟩ := cs.kpt
  refine ⟨_, pss_cons (ps_if (PW.pt (pw_or (pt_not (pt_val (pe_callB (id := "isinstance") (r := rIsi K) call_isi (by rfl) nb.isi (by decide +kernel) (pa_cons (pv 0) (pa_cons (pe_bltn (v := .ty "str") (by rfl) nb.str (by decide +kernel) rfl) pa_nil))))) (pw_or (pt_cmpR op_eq (pv 0) pe_str (nomark _)) (pw_or (pt_cmpR op_gt (pe_callB (id := "len") call_len_str (by rfl) nb.len PySem.boot_len (pa_cons (pv 0) pa_nil)) (pe_glob (v := .int 24) (by rfl) hlng ⟨tlng, rfl⟩) (nomark _)) (pw_or1 (pt_cmpR op_in_seq (pv 0) (pe_glob (v := .ref pp) (by rfl) hpp rfl) (by rfl)))))))
      (pss_one (ps_ret pe_bl)) pss_nil)
    (pss_one (ps_ret (pe_and (pe_cmpR op_in_sign (pe_ix ix_str (pv 0) pe_int (fun _ _ => rfl)) (pe_glob (v := .str "abcdefghijklmnopqrstuvwxyz") (by rfl) hsml ⟨tsml, rfl⟩) (by rfl)) (pe_one (pe_cmpR op_eq (pe_cal c1 hr (by decide) (by rfl) (pa_cons (pv 0) (pa_cons pe_int (pa_cons (pe_glob (v := .str "abcdefghijklmnopqrstuvwxyz0123456789_") (by rfl) hinn ⟨tinn, rfl⟩) pa_nil)))) (pe_callB (id := "len") call_len_str (by rfl) nb.len PySem.boot_len (pa_cons (pv 0) pa_nil)) (nomark _)))))), ?_⟩
  walk_at "rd"
  refine ⟨v, rfl, isi hd (isi_str d) ⟨isStrD d, rfl, ?_⟩⟩
  cases ht : isStrD d with
  | false =>
    have q' := q H (Same.refl H)
    rw [nm_none ht] at q'
    exact iteT (iteT q')
  | true =>
    obtain ⟨z, rfl, rfl⟩ := str_da hd ht
    have zl := hz z rfl
    have zs := sz (show z.length ≤ 100000 by omega)
    have l := cd_len z
    have q1 : ∀ H', Same H H' → Q (.bl (nameB z)) H' := q
    unfold nameB at q1
    refine iteF ⟨.str z, rfl, rfl, _, rfl, ?_⟩
    rw [empty_eq]
    refine ite2 (fun c0 => ?_) (fun c0 => ?_)
    · have q' := q1 H (Same.refl H)
      rw [c0, Bool.true_or, Bool.true_or, if_pos rfl] at q'
      exact iteT q'
    have c0' : ¬ (z.length = 0) := fun e => c0 (decide_eq_true e)
    have f0 : decide (z.length = 0) = false := decide_eq_false c0'
    refine ⟨.str z, rfl, z, rfl, zs, _, _, rfl, rfl, _, rfl, ite2 (fun c1 => ?_) (fun c1 => ?_)⟩
    · have c1 := of_decide_eq_true c1
      have q' := q1 H (Same.refl H)
      rw [show decide (24 < z.length) = true from decide_eq_true (by omega), Bool.or_true, Bool.true_or, if_pos rfl] at q'
      exact iteT q'
    have c1' : ¬ ((24 : Int) < (z.length : Int)) := fun e => c1 (decide_eq_true e)
    have f1 : decide (24 < z.length) = false := decide_eq_false (by omega)
    refine ⟨.str z, rfl, pp, keptV, rfl, .inr (hps H), rfl, rfl, _, rfl, ite2 (fun c2 => ?_) (fun c2 => ?_)⟩
    · have c2 : inV (.str z) keptV = true := c2
      have q' := q1 H (Same.refl H)
      rw [c2, Bool.or_true, if_pos rfl] at q'
      exact q'
    have c2 : ¬ (inV (.str z) keptV = true) := c2
    rw [f0, f1, Bool.false_or, Bool.false_or, if_neg c2] at q1
    have iz : 0 < (cd z).length := by omega
    have dk := List.drop_eq_getElem_cons iz
    rw [List.drop_zero] at dk
    have at1 : atI (cd z) ((0 : Nat) : Int) = some (cd z)[0] := atI_nat (List.getElem?_eq_getElem iz)
    have hh : (cd z).headD 0 = (cd z)[0] := headD_get iz
    refine ⟨.str z, rfl, z, 0, (cd z)[0], rfl, rfl, zs, at1, _, _, rfl, rfl, _, rfl, ?_⟩
    rw [sml_eq]
    rw [hh] at q1
    cases hS : isS (cd z)[0] with
    | false => 
      have q' := q1 H (Same.refl H)
      rw [hS] at q'
      exact iteF q'
    | true =>
      refine iteT ⟨.str z, rfl, z, "abcdefghijklmnopqrstuvwxyz0123456789_", 0, rfl, by omega, Nat.zero_le _, fun H' s' => ⟨.str z, rfl, z, rfl, zs, rfl, ?_⟩⟩
      have q' := q1 H' s'
      rw [hS, Bool.true_and, ← run_all] at q'
      rw [show (fun c => decide (c ∈ cd "abcdefghijklmnopqrstuvwxyz0123456789_")) = isN from funext inn_eq, List.drop_zero, Nat.zero_add, dec_int]
      rw [show (((run isN (cd z) : Nat) : Int) == (z.length : Int)) = decide (run isN (cd z) = (cd z).length) from by rw [Bool.eq_iff_iff, beq_iff_eq, decide_eq_true_eq]; omega]
      exact q'
theorem scIsName : FnScope ["_law_thing", "_law_more", "_law_sign"] ["_law_thing"] (defScope sIsName) := ⟨rfl, rfl, rfl, by decide +kernel, rfl, by decide +kernel, by decide +kernel⟩
theorem ok_isName (D : Def K mg "_law_is_name" sIsName ["_law_thing"]) (nb : Nb mg) (c1 : Cal P w K mg base "_law_kept" 1 [] spKept) : Cal P w K mg base "_law_is_name" 2 ["_law_thing"] spNm := by
  refine D.ok scIsName (fun vs H Q E h => ?_) (fun f cdv A out s H vs Q E hr h => ?_)
  · obtain ⟨a, v, d, rfl, _⟩ := h; rfl
  obtain ⟨a, v, d, rfl, hd, hz, q⟩ := h
  refine ⟨_, pss_cons (ps_if (PW.pt (pw_or (pt_not (pt_val (pe_callB (id := "isinstance") (r := rIsi K) call_isi (by rfl) nb.isi (by decide +kernel) (pa_cons (pv 0) (pa_cons (pe_bltn (v := .ty "str") (by rfl) nb.str (by decide +kernel) rfl) pa_nil))))) (pw_or (pt_not (pt_chain op_lt op_lt pe_int (pe_callB (id := "len") call_len_str (by rfl) nb.len PySem.boot_len (pa_cons (pv 0) pa_nil)) pe_int)) (pw_or1 (pt_cmpR op_in_seq (pv 0) (pe_cal0 c1 hr (by decide) (by rfl)) (by rfl))))))
      (pss_one (ps_ret pe_bl)) pss_nil)
    (pss_cons (ps_set (i := 1) scIsName.nd rfl (Or.inr rfl) pe_str)
    (pss_one (ps_ret (pe_and (pe_cmpR op_in_sign (pe_ix ix_str (pv 0) pe_int (fun _ _ => rfl)) (pe_slice sl_str (pv 1) po_none (po_some pe_int)) (by rfl)) (pe_one (pe_callB (cr_all rfl) (by rfl) nb.all (by decide +kernel) (pa_cons
        (pe_lc (own := [("_law_sign", 2)]) (g := gName 2) (tt := tYes) rfl scIsName.nd (pi_str (pv 0)) (blkOk_by (N := ["_law_thing", "_law_more", "_law_sign"]) (sc := defScope sIsName) (by decide +kernel))
          (fun _ _ _ _ _ => pg_name (i := 2) scIsName.nd rfl (Or.inl rfl)) (fun _ _ _ _ _ => pts_nil) (fun _ _ _ _ _ => pe_cmpR op_in_sign (pv 2) (pv 1) (by rfl))) pa_nil))))))), ?_⟩
  walk_at "rd"
  refine ⟨v, rfl, isi hd (isi_str d) ⟨isStrD d, rfl, ?_⟩⟩
  cases ht : isStrD d with
  | false =>
    have q' := q H (Same.refl H)
    rw [nm_none ht] at q'
    exact iteT (iteT q')
  | true =>
    obtain ⟨z, rfl, rfl⟩ := str_da hd ht
    have zl := hz z rfl
    have zs := sz (show z.length ≤ 100000 by omega)
    have l := cd_len z
    have q1 : ∀ H', Same H H' → Q (.bl (nameB z)) H' := q
    unfold nameB at q1
    refine iteF ?_
    dsimp only [L2.tChain]
    walk_at "rd"
    refine ⟨.str z, rfl, z, rfl, zs, _, _, rfl, rfl, _, rfl, ite2 (fun c0 => ?_) (fun c0 => ?_)⟩
    rotate_left
    · have c0' : ¬ ((0 : Int) < (z.length : Int)) := fun e => c0 (decide_eq_true e)
      have q' := q1 H (Same.refl H)
      rw [show decide (z.length = 0) = true from decide_eq_true (by omega), Bool.true_or, Bool.true_or, if_pos rfl] at q'
      exact ⟨false, rfl, iteT (iteT q')⟩
    have c0 := of_decide_eq_true c0
    have f0 : decide (z.length = 0) = false := decide_eq_false (by omega)
    refine ⟨_, _, rfl, rfl, _, rfl, ?_⟩
    by_cases c1 : (z.length : Int) < 25
    rotate_left
    · have q' := q1 H (Same.refl H)
      rw [decide_eq_false c1]
      rw [f0, show decide (24 < z.length) = true from decide_eq_true (by omega), Bool.or_true, Bool.true_or, if_pos rfl] at q'
      exact iteT (iteT q')
    rw [decide_eq_true c1]
    have f1 : decide (24 < z.length) = false := decide_eq_false (by omega)
    refine iteF ⟨.str z, rfl, rfl, fun p H4 s4 np hp => ⟨p, keptV, rfl, .inr (SqT.of hp), rfl, rfl, _, rfl, ite2 (fun c2 => ?_) (fun c2 => ?_)⟩⟩
    · have c2 : inV (.str z) keptV = true := c2
      have q' := q1 H4 s4
      rw [c2, Bool.or_true, if_pos rfl] at q'
      exact q'
    have c2 : ¬ (inV (.str z) keptV = true) := c2
    rw [f0, f1, Bool.false_or, Bool.false_or, if_neg c2] at q1
    have iz : 0 < (cd z).length := by omega
    have dk := List.drop_eq_getElem_cons iz
    rw [List.drop_zero] at dk
    have at1 : atI (cd z) ((0 : Nat) : Int) = some (cd z)[0] := atI_nat (List.getElem?_eq_getElem iz)
    have hh : (cd z).headD 0 = (cd z)[0] := headD_get iz
    refine ⟨.str z, rfl, z, 0, (cd z)[0], rfl, rfl, zs, at1, .str _, rfl, 26, rfl, _, rfl, sz (by decide +kernel), _, _, rfl, rfl, _, rfl, ?_⟩
    rw [show cutS "abcdefghijklmnopqrstuvwxyz0123456789_" none (some 26) = "abcdefghijklmnopqrstuvwxyz" from by decide +kernel]
    rw [sml_eq]
    rw [hh] at q1
    cases hS : isS (cd z)[0] with
    | false => 
      have q' := q1 H4 s4
      rw [hS] at q'
      exact iteF q'
    | true =>
      refine iteT (lc_str (f := fun c => .bl (isN c)) (fun R hR => ⟨.str z, rfl, z, rfl, hR⟩) (by omega) (fun v => wipeJ _ 2 (some v)) (fun c H5 hc s5 R r => ⟨.str _, rfl, .str _, rfl, c, _, rfl, rfl, by rw [inn_eq]; exact r⟩) (fun L H5 s5 nL hL => ⟨L, (cd z).map isN, rfl, SqL.of (by rw [List.map_map]; exact hL), ?_⟩))
      have q' := q1 H5 (s4.trans s5)
      rw [hS, Bool.true_and] at q'
      rw [List.all_map]
      exact q'
end
end K53

set_option Elab.async false
set_option linter.all false
set_option maxRecDepth 100000
set_option maxHeartbeats 8000000
local macro_rules | `(tactic| walk_at "rd") => `(tactic| dsimp only [Evl.tCut, L2.tSeq, L2.tNext, L2.tRet, L2.tRetN, L2.tAsg, L2.gName, L2.tIfS, L2.tDrop, L2.tCons, L2.tNil, L2.tC, L2.tVar, L2.tCB, L2.tAndV, L2.tOrV, L2.tNotV, L2.tB, L2.tTest, L2.tOp, L2.tUn, L2.tNot, L2.tAnd, L2.tOr, L2.tIf, L2.tCall, L2.tTup, L2.tLst, L2.tNotT, L2.tYes, L2.gTup, L2.gCons, L2.gNil, L2.gSub, L2.tBM0, L2.tBM, L2.tWhile, L2.tFor, L2.iRng1, L2.iRng2, L2.tAugS, Tw.iEnumT, L2.tCKw, L2.tAug, L2.ipI, RT.iRevA, L2.tPar, L2.tPar3, L2.tSl, L2.tNoPart, L2.tPart, Tw.tRevT])
namespace K53
open PySem PySem.Spec PyProof.Rows L2 Tw
def Nice (n : Nat) (d : PyData) : Prop := d.canLay0 = true ∧ d.depth ≤ n
theorem canAll {ds : List PyData} (h : ∀ d ∈ ds, d.canLay0 = true) : PyData.canLayAll0 ds = true := by
  induction ds with
  | nil => simp [PyData.canLayAll0]
  | cons d ds ih => simp only [PyData.canLayAll0, h d (by simp), ih fun e he => h e (by simp [he]), Bool.and_self]
theorem depAll {n : Nat} {ds : List PyData} (h : ∀ d ∈ ds, d.depth ≤ n) : PyData.depthAll ds ≤ n := by
  induction ds with
  | nil => simp [PyData.depthAll]
  | cons d ds ih =>
    simp only [PyData.depthAll]
    exact Nat.max_le.mpr ⟨h d (by simp), ih fun e he => h e (by simp [he])⟩
theorem nice_tup {n : Nat} {ds : List PyData} (h : ∀ d ∈ ds, Nice n d) : Nice (n + 1) (.tuple ds) :=
  ⟨by simp only [PyData.canLay0]; exact canAll fun d hd => (h d hd).1, by simp only [PyData.depth]; exact Nat.succ_le_succ (depAll fun d hd => (h d hd).2)⟩
theorem nice_lst {n : Nat} {ds : List PyData} (h : ∀ d ∈ ds, Nice n d) : Nice (n + 1) (.list ds) :=
  ⟨by simp only [PyData.canLay0]; exact canAll fun d hd => (h d hd).1, by simp only [PyData.depth]; exact Nat.succ_le_succ (depAll fun d hd => (h d hd).2)⟩
theorem nice_int (i : Int) : Nice 0 (.int i) := ⟨by simp [PyData.canLay0], by simp [PyData.depth]⟩
theorem Nice.up {n m : Nat} {d : PyData} (h : Nice n d) (l : n ≤ m) : Nice m d := ⟨h.1, Nat.le_trans h.2 l⟩
theorem Nice.shaped {n : Nat} {d : PyData} (h : Nice n d) (l : n ≤ 64) : SeqAt.shaped d = true := by
  unfold SeqAt.shaped
  rw [h.1, decide_eq_true (Nat.le_trans h.2 l)]; rfl
/-- a word and its spot as data -/
def wD (w : Nat × List Nat) : PyData := .tuple [.int (w.1 : Int), .str ⟨w.2.toArray⟩]
theorem strOk_of {cs : List Nat} (h : ∀ c ∈ cs, c < 128) : PyData.strOk ⟨cs.toArray⟩ = true := by
  unfold PyData.strOk
  rw [← Array.all_toList, List.all_eq_true]
  exact fun c hc => decide_eq_true (Nat.lt_trans (h c hc) (by decide))
theorem nice_wD (w : Nat × List Nat) (h : ∀ c ∈ w.2, c < 128) : Nice 1 (wD w) := nice_tup fun d hd => by
  rcases List.mem_cons.mp hd with rfl | hd
  · exact nice_int _
  · rw [List.mem_singleton.mp hd]
    exact ⟨by simp only [PyData.canLay0]; exact strOk_of h, by simp [PyData.depth]⟩
theorem da_words {a : Addr} {H : Hp} (hw : Wl a H) : ∀ {xs : List V} {ws : List (Nat × List Nat)}, RelA W2 H xs ws → DaAll a H xs (ws.map wD)
  | [], [], _ => .nil
  | [], w :: ws, h => by have := h.1; simp at this
  | x :: xs, [], h => by have := h.1; simp at this
  | x :: xs, w :: ws, h => by
    obtain ⟨r', e1, p, e2, e3⟩ := h.2 0 x rfl
    cases e1
    subst e2
    exact .cons (.tup (hw.tup e3) e3 (.cons (.int _) (.cons (.str _) .nil))) (da_words hw ⟨by have := h.1; simpa using this, fun i v e => by
      obtain ⟨r', e1, e2⟩ := h.2 (i + 1) v (by simpa using e)
      exact ⟨r', by simpa using e1, e2⟩⟩)
def sumL : List (Nat × List Nat) → Nat
  | [] => 0
  | w :: ws => w.2.length + 3 + sumL ws
/-- words small enough to be shown -/
def Bw (ws : List (Nat × List Nat)) : Prop := (∀ w ∈ ws, w.1 < 1000000 ∧ ∀ c ∈ w.2, c < 128) ∧ sumL ws ≤ 100000
theorem bulk_words : ∀ ws : List (Nat × List Nat), PyData.bulkAll (ws.map wD) = sumL ws
  | [] => rfl
  | w :: ws => by
    rw [List.map_cons, PyData.bulkAll, bulk_words ws, sumL]
    show (0 + 1 + (w.2.toArray.size + 1 + 0)) + 1 + sumL ws = _
    rw [List.size_toArray]
    omega
theorem int_short {n : Nat} (h : n < 1000000) : (PyData.shown (.int (n : Int))).length ≤ 80 ∧ ((n : Int)).natAbs.log2 < 1920 := by
  refine ⟨?_, ?_⟩
  · show (Str.ofString (toString (n : Int))).length ≤ 80
    rw [PySem.ofString_length]
    exact Nat.le_trans (int_text_length_le10 (k := 6) (by decide) (by omega)) (by decide)
  · by_cases z : ((n : Int)).natAbs = 0
    · rw [z]; decide
    · rw [Nat.log2_lt z]
      exact Nat.lt_of_lt_of_le (show ((n : Int)).natAbs < 2 ^ 20 by omega) (Nat.pow_le_pow_right (by decide) (by decide))
theorem short_words : ∀ ws : List (Nat × List Nat), (∀ w ∈ ws, w.1 < 1000000 ∧ ∀ c ∈ w.2, c < 128) → PyData.showableAll (ws.map wD) = true ∧ PyData.leavesShortAll 80 (ws.map wD) = true
  | [], _ => ⟨rfl, rfl⟩
  | w :: ws, h => by
    obtain ⟨i1, i2⟩ := short_words ws fun v hv => h v (List.mem_cons_of_mem _ hv)
    obtain ⟨h1, h2⟩ := h w (by simp)
    obtain ⟨s1, s2⟩ := int_short h1
    refine ⟨?_, ?_⟩
    · rw [List.map_cons, PyData.showableAll, i1, wD, PyData.showable, PyData.showableAll, PyData.showable, decide_eq_true s2]
      rfl
    · rw [List.map_cons, PyData.leavesShortAll, i2, wD, PyData.leavesShort, PyData.leavesShortAll, PyData.leavesShort, decide_eq_true s1, PyData.leavesShortAll, PyData.leavesShort]
      rw [show (List.all ((⟨w.2.toArray⟩ : Str).cps.toList) fun c => decide (c < 16 ^ 8)) = true from List.all_eq_true.mpr fun c hc => decide_eq_true (Nat.lt_trans (h2 c (by simpa using hc)) (by decide))]
      rfl
theorem show_words {K : PySem.W.Frag} {H : Hp} {p a : Addr} {xs : List V} {ws : List (Nat × List Nat)} {Q : VK} (w : Wl a H) (e : H p = some (.tup xs)) (r : RelA W2 H xs ws) (b : Bw ws) (q : Q (.str (PyData.tuple (ws.map wD)).shown) H) : rShow K [.ref p] H Q := by
  obtain ⟨b1, b2⟩ := b
  obtain ⟨s1, s2⟩ := short_words ws b1
  have nn : ∀ d ∈ ws.map wD, Nice 1 d := fun d hd => by
    obtain ⟨v, hv, rfl⟩ := List.mem_map.mp hd
    exact nice_wD v (b1 v hv).2
  refine ⟨p, .tuple (ws.map wD), rfl, .tup (SqT.of e) ((da_words w r).dp (canAll fun d hd => (nn d hd).1)), (nice_tup nn).shaped (by decide), ?_, ?_, q⟩
  · rw [PyData.showable]; exact s1
  · have h := PyData.shown_le_bulk 80 (by decide) (.tuple (ws.map wD)) (by rw [PyData.leavesShort]; exact s2)
    rw [PyData.bulk, bulk_words] at h
    refine Nat.le_trans h (Nat.le_trans ?_ (show 16777216 ≤ sizeLine by decide))
    omega
/-! how far the words of a text go -/
theorem sumL_app : ∀ u v : List (Nat × List Nat), sumL (u ++ v) = sumL u + sumL v
  | [], v => by simp [sumL]
  | w :: u, v => by rw [List.cons_append, sumL, sumL, sumL_app u v]; omega
theorem toks_bw : ∀ (n : Nat) (cs : List Nat) (at_ : Nat), cs.length ≤ n → (∀ c ∈ cs, c < 128) → (∀ w ∈ toks at_ cs, w.1 < at_ + cs.length ∧ ∀ c ∈ w.2, c < 128) ∧ sumL (toks at_ cs) ≤ 4 * cs.length
  | 0, cs, at_, h, hc => by
    have : cs = [] := List.eq_nil_of_length_eq_zero (by omega)
    subst this
    rw [toks_nil]
    exact ⟨(fun w hw => nomatch hw), Nat.le_refl _⟩
  | n + 1, [], at_, h, hc => by
    rw [toks_nil]
    exact ⟨(fun w hw => nomatch hw), Nat.le_refl _⟩
  | n + 1, c :: r, at_, h, hc => by
    have hr : r.length ≤ n := by rw [List.length_cons] at h; omega
    have hcr : ∀ x ∈ r, x < 128 := fun x hx => hc x (List.mem_cons_of_mem _ hx)
    cases hb : isB c with
    | true =>
      rw [toks_blank hb, List.length_cons]
      obtain ⟨i1, i2⟩ := toks_bw n r (at_ + 1) hr hcr
      exact ⟨fun w hw => ⟨by have := (i1 w hw).1; omega, (i1 w hw).2⟩, by omega⟩
    | false =>
      by_cases h2 : c = 35
      · subst h2
        rw [toks_remark, List.length_cons]
        have rl := run_le notL r
        obtain ⟨i1, i2⟩ := toks_bw n (r.drop (run notL r)) (at_ + 1 + run notL r) (by rw [List.length_drop]; omega) fun x hx => hcr x (List.mem_of_mem_drop hx)
        rw [List.length_drop] at i1 i2
        exact ⟨fun w hw => ⟨by have := (i1 w hw).1; omega, (i1 w hw).2⟩, by omega⟩
      · have tp := tokLen_pos c r
        have tl := tokLen_le (c :: r)
        obtain ⟨i1, i2⟩ := toks_bw n ((c :: r).drop (tokLen (c :: r))) (at_ + tokLen (c :: r)) (by rw [List.length_drop, List.length_cons]; omega) fun x hx => hc x (List.mem_of_mem_drop hx)
        rw [toks_word hb h2, sumL]
        rw [List.length_drop] at i1 i2
        refine ⟨fun w hw => ?_, ?_⟩
        · rcases List.mem_cons.mp hw with rfl | hw
          · exact ⟨by show at_ < _; rw [List.length_cons]; omega, fun x hx => hc x (List.mem_of_mem_take hx)⟩
          · exact ⟨by have := (i1 w hw).1; omega, (i1 w hw).2⟩
        · rw [List.length_take]
          omega
theorem bw_toks {z : List Nat} (h : z.length ≤ 20000) (hc : ∀ c ∈ z, c < 128) : Bw (toks 0 z) := by
  obtain ⟨h1, h2⟩ := toks_bw z.length z 0 (Nat.le_refl _) hc
  exact ⟨fun w hw => ⟨by have := (h1 w hw).1; omega, (h1 w hw).2⟩, by omega⟩
theorem joinB_len : ∀ ws : List (Nat × List Nat), (joinB (ws.map (·.2))).length ≤ sumL ws
  | [] => Nat.le_refl _
  | [w] => by show w.2.length ≤ _; rw [sumL]; omega
  | w :: v :: ws => by
    have := joinB_len (v :: ws)
    show (w.2 ++ (32 :: joinB (v.2 :: ws.map (·.2)))).length ≤ _
    rw [List.length_append, List.length_cons, sumL]
    have e : joinB (v.2 :: ws.map (·.2)) = joinB ((v :: ws).map (·.2)) := rfl
    rw [e]
    omega
theorem joinB_mem : ∀ (ws : List (Nat × List Nat)), (∀ w ∈ ws, ∀ c ∈ w.2, c < 128) → ∀ c ∈ joinB (ws.map (·.2)), c < 128
  | [], _, c, hc => by cases hc
  | [w], h, c, hc => h w (by simp) c hc
  | w :: v :: ws, h, c, hc => by
    have hc : c ∈ w.2 ++ (32 :: joinB ((v :: ws).map (·.2))) := hc
    rcases List.mem_append.mp hc with hc | hc
    · exact h w (by simp) c hc
    · rcases List.mem_cons.mp hc with rfl | hc
      · decide
      · exact joinB_mem (v :: ws) (fun x hx => h x (List.mem_cons_of_mem _ hx)) c hc
end K53

set_option Elab.async false
set_option linter.all false
set_option maxRecDepth 100000
set_option maxHeartbeats 8000000
namespace PySem
namespace LowX
open PySem.W PySem.Calls PyProof.Rows PySem.HandSPX
/-! ### the text of __init__ -/
def iA (p1 p2 : Pos) : Arguments := { posonlyargs := [], args := [{ arg := "self", annotation := none, pos := p1 }, { arg := "spot", annotation := none, pos := p2 }], vararg := none, kwonlyargs := [], kw_defaults := [], kwarg := none, defaults := [] }
def iB (q1 q2 q3 q4 : Pos) : List Stmt := [.Assign [.Attribute (.Name "self" q1) "spot" q2] (.Name "spot" q3) q4]
def iS : Scope := { kind := .function, names := [(PySem.Str.ofString "self", .local), (PySem.Str.ofString "spot", .local)], isGenerator := false, isCoroutine := false, more := [] }
/-- what the written part says of Low, at C, and of its __init__, at fI -/
structure LowTxt (K : Frag) (mg : Str → Option Value) (C fI : Addr) : Prop where
  gC : mg "BadText" = some (.ref C)
  cls : ∃ nm q N bs bm sn sub ab col dd k0 k1 k2 k3 k5, K.lookup C = some (excClassObj nm q C N bs bm true sn sub ab col dd k0 k1 k2 k3 k5 "ValueError.__new__") ∧ refsVE bm = true
  sa : findIn K (.ref C) "__setattr__" = some (some (.builtin "object.__setattr__"))
  ga : findIn K (.ref C) "__getattribute__" = some (some (.builtin "BaseException.__getattribute__"))
  gg : findIn K (.ref C) "__getattr__" = some none
  noN : findIn K (.ref C) "spot" = some none
  iC : findIn K (.ref C) "__init__" = some (some (.ref fI))
  tC : typeIn K (.ref fI) = some (.type "function")
  kC : keepIn K (.ref C) = true
  exC : subIn K (.ref C) (.type "BaseException") = some true
  tyC : typeIn K (.ref C) = some (.type "type")
  hdC : hasDictIn K C = true
  te : exmOne K (.ref C) (.ref C) = some true
  fn : ∃ (oc : Value) (od : Option Addr) (doc pm : Value) (an : Option Addr) (cdv ct : Value) (osl : Array (Option Value)) (p1 p2 q1 q2 q3 q4 : Pos),
    K.lookup fI = some ⟨oc, od, .func (fnOf "__init__" "BadText.__init__" (iA p1 p2) (iB q1 q2 q3 q4) iS .none .none doc pm an cdv ct), osl⟩ ∧ codeIn K cdv "BadText.__init__" = true
theorem one_size (v : Value) : [v].length ≤ sizeLine := by
  rw [sizeLine_eq]
  exact (by decide : 1 ≤ 16777216)
theorem kept_but {K : Frag} {h h' : Heap} {x : Addr} (X : K.In h) (hx : K.lookup x = none) (k : ∀ b o, b ≠ x → h.get? b = some o → h'.get? b = some o) : K.In h' := fun a o e =>
  k a o (fun z => by rw [z, hx] at e; cases e) (X a o e)
theorem ldC {M : Model} {s : Shared} {name : Str} {scope : Scope} {L a : Addr} {cd : Value} {m : Str → Option Value} {x : Str} {pos : Pos} {v : Value} {Q : Value → Shared → Prop} {A : Around} {E : Value → Shared → Prop} (hn : s.heap.Ns L m) (hv : m x = some v) (h : Q v s)
    (hk : scope.kind = .function := by rfl) (hl : (envOfC name scope L a cd).kindOf x = some .local := by rfl) (hd : (x == ("__debug__" : Str)) = false := by decide) :
    wpAny M A (eval (.Name x pos) (envOfC name scope L a cd)) Q E s := wpAny_Name (wpAny_loadName_local hk hl hn hv h) hd
/-- what __init__ leaves of a fresh exception at x -/
structure InitEnd (h h' : Heap) (x C dx t1 : Addr) (v : Value) : Prop where
  keep : ∀ b o, b ≠ x → h.get? b = some o → h'.get? b = some o
  obj : h'.get? x = some { cls := .ref C, dict := some dx, data := .fields #[.ref t1, .none, .none, .none, .bool false, .none] }
  dbig : h.objs.size ≤ dx
  dne : dx ≠ x
  ns : h'.Ns1 dx (fun y => if y = "spot" then some v else none)
/-- a made Low -/
structure OwnMade (h h' : Heap) (e C d : Addr) (v : Value) : Prop where
  keep : ∀ b o, h.get? b = some o → h'.get? b = some o
  new : h.objs.size ≤ e
  obj : ∃ oe vs, h'.get? e = some oe ∧ oe.cls = .ref C ∧ oe.dict = some d ∧ oe.data = .fields vs ∧ vs[1]? = some .none
  dbig : h.objs.size ≤ d
  dne : d ≠ e
  ns : h'.Ns1 d (fun y => if y = "spot" then some v else none)
section
variable {prog : Program} {w : World} {A : Around} {E : Value → Shared → Prop} {R : Result → Shared → Prop} {s : Shared} {K : Frag} {mg : Str → Option Value} {C fI : Addr}
theorem low_init (T : LowTxt K mg C fI) {x t0 : Addr} {v : Value} (X : K.In s.heap) (hlim : s.heap.NoLimit) (hx : s.heap.get? x = some (excO C t0)) (hnx : K.lookup x = none) (hroom : A.depth < recursionLimit)
    (hq : ∀ h' tk dx, InitEnd s.heap h' x C dx t0 v → R (.ok (.ret .none)) { s with heap := h', toks := tk }) :
    codeAny (model prog w) A (.call (.ref fI) ⟨[.ref x, v], []⟩) R s := by
  obtain ⟨oc, od, doc, pm, an, cdv, ct, osl, p1, p2, q1, q2, q3, q4, ho, hcd⟩ := T.fn
  obtain ⟨nm, q, N, bs, bm, sn, sub, ab, col, dd, k0, k1, k2, k3, k5, hC, hbm⟩ := T.cls
  have hcl : clsIn K C = some { name := nm, bases := bs, mro := .ref C :: bm, ns := N, qualname := q, hasDict := true, slotNames := sn, subclasses := sub, abstract := ab, collection := col, hasDel := false } := by unfold clsIn; rw [hC] <;> rfl
  refine Att.call_fn (binds := [("self", .ref x), ("spot", v)]) X hlim ho hcd hroom (BindsTo.of_eq (by first | rfl | with_unfolding_all rfl)) (by first | rfl | decide | with_unfolding_all rfl) (fun s₁ IC => ?_) rfl rfl rfl
  obtain ⟨h₁, tk₁, rfl⟩ := IC.toInCall.same
  have k : ∀ b o, s.heap.get? b = some o → h₁.get? b = some o := IC.toInCall.keep
  have hn := IC.toInCall.ns
  have hxL : s.heap.objs.size ≠ x := Nat.ne_of_gt (Heap.lt_size hx)
  have X₁ : K.In h₁ := X.keeps k
  have hx₁ := k _ _ hx
  -- self.by = by
  show wpAny _ _ (execs _ _) _ _ _
  refine wpAny_execs_cons (plainObj_wpAny_Assign_Attribute ?_)
  refine ldC (v := v) hn (by first | rfl | with_unfolding_all rfl | kernel_rfl) (ldC (v := .ref x) hn (by first | rfl | with_unfolding_all rfl | kernel_rfl) ?_)
  refine set_plain X₁ (ox := excO C t0) (od := none) ⟨hx₁, rfl, rfl, trivial⟩ T.sa ?_
  refine exc_osa X₁ hx₁ hcl (show refsVE (.ref C :: bm) = true from hbm) rfl T.noN (fun h₃ tk₃ dx k₃ dn dne hx₃ hn₃ => ?_)
  show wpAny _ _ (execs _ _) _ _ _
  have z : s.heap.objs.size < h₁.objs.size := hn.lt
  exact wpAny_execs_nil (hq h₃ tk₃ dx ⟨fun b o hb e => k₃ b o hb (k b o e), hx₃, Nat.le_of_lt (Nat.lt_of_lt_of_le z dn), dne, hn₃⟩)
theorem low_made (T : LowTxt K mg C fI) {v : Value} (X : K.In s.heap) (hlim : s.heap.NoLimit) (hroom : A.depth + 1 < recursionLimit)
    (hq : ∀ h' tk e d, OwnMade s.heap h' e C d v → R (.ok (.ret (.ref e))) { s with heap := h', toks := tk }) :
    codeAny (model prog w) A (.call (.ref C) ⟨[v], []⟩) R s := by
  obtain ⟨nm, q, N, bs, bm, sn, sub, ab, col, dd, k0, k1, k2, k3, k5, hC, hbm⟩ := T.cls
  obtain ⟨hp, g, dr, tk, os⟩ := s
  have k : ∀ b o, hp.get? b = some o → ((hp.push (kdv_tup [v])).push (excO C hp.objs.size)).get? b = some o := fun b o e => Heap.get?_push_of_some _ (Heap.get?_push_of_some _ e)
  have hget : ((hp.push (kdv_tup [v])).push (excO C hp.objs.size)).get? (hp.objs.size + 1) = some (excO C hp.objs.size) := by heap_get
  have hnx : K.lookup (hp.objs.size + 1) = none := by
    cases e : K.lookup (hp.objs.size + 1) with
    | none => rfl
    | some o =>
      have z : hp.get? (hp.objs.size + 1) = some o := X _ _ e
      exact absurd (Nat.lt_of_succ_lt (Heap.lt_size z)) (Nat.lt_irrefl _)
  refine call_own F.excBase_ValueError (fun X => refsVE_contains X bm hbm) (X _ _ hC) (looks_findIn X T.iC) (fun self => bind_fn X self T.tC) (one_size v) ?_
  refine low_init (s := ⟨(hp.push (kdv_tup [v])).push (excO C hp.objs.size), g, dr, tk, os⟩) T (X.keeps k) (hlim.keeps k) hget hnx ?_ fun h' tk' dx ⟨k', hx, dn, dne, hns⟩ => ?_
  · show A.depth + 1 < recursionLimit
    exact hroom
  · have old : ∀ b o, hp.get? b = some o → h'.get? b = some o := fun b o e => k' b o (Nat.ne_of_lt (Nat.lt_succ_of_lt (Heap.lt_size e))) (k b o e)
    have z : hp.objs.size + 1 + 1 ≤ dx := by
      first
        | (simpa only [Heap.size_push] using dn)
        | exact dn
        | (have q := dn; rw [Heap.size_push, Heap.size_push] at q; exact q)
    exact ⟨rfl, hq h' tk' (hp.objs.size + 1) dx ⟨old, Nat.le_succ _, ⟨_, _, hx, rfl, rfl, rfl, rfl⟩, Nat.le_trans (Nat.le_trans (Nat.le_succ _) (Nat.le_succ _)) z, dne, hns⟩⟩
end
end LowX
end PySem
namespace L2
open PySem PySem.Spec PyProof.Rows
theorem relO_low {v : V} {v' : Value} (r : RelV v v') (f : Str) : RelO (List.lookup f [(("spot" : Str), v)]) (if f = "spot" then some v' else none) := by
  by_cases hw : f = "spot"
  · subst hw
    rw [if_pos rfl]
    have q : List.lookup ("spot" : Str) [(("spot" : Str), v)] = some v := by simp [List.lookup]
    rw [q]
    exact r
  · rw [if_neg hw]
    have qw : (f == ("spot" : Str)) = false := by simpa using hw
    have q2 : List.lookup f [(("spot" : Str), v)] = none := by simp [List.lookup, qw]
    rw [q2]
    trivial
section
variable {X : Cx} {C fI : Addr}
/-- Low(e) -/
def tMkLow (C : Addr) (ta : TA) : St → Hp → XK → Prop := fun σ H Q => ta σ H fun vs H1 => ∃ v, vs = [v] ∧ ∀ d, H1 d = none → Q (.ref C) (some d) (upd H1 d (.xd [(("spot" : Str), v)]))
theorem pmk_low {a : Expr} {ta : TA} {p pos : Pos} {k : Nat} (T : PySem.LowX.LowTxt X.K X.mg C fI) (hr : Room k X.A) (ha : PA X [a] ta) (hg : Gl X "BadText" := by rfl)
    (he : starEach (a :: []) X.env = (false, eval a X.env) :: starEach [] X.env := by rfl) (hpl : (backTo pos (starEach [] X.env)).any (·.1) = false := by rfl) :
    PMk X (.Call (.Name "BadText" p) [a] [] pos) (tMkLow C ta) := by
  intro pins s σ H Q I h
  refine wpAny_Call_Name_kw (ld_glob I hg T.gC ?_)
  refine PySem.W.callWith_K (h₀ := X.base) I.ok.mod.kin T.kC (thn (ha.run pos pins s σ H _ I h) fun us s1 hh => ?_) he hpl
  obtain ⟨vs, H1, I1, r1, v, ev, q1⟩ := hh
  subst ev
  refine ⟨I1.kIn, ?_⟩
  cases r1 with
  | cons rv rn =>
    rename_i v' us'
    cases rn
    show wpAny _ _ (call (.ref C) [v']) _ _ _
    have hlim := I1.nolimit
    obtain ⟨hp, g, dr, tk, os⟩ := s1
    refine wpAny_call (PySem.LowX.low_made T I1.kIn hlim (by have := hr.dp; omega) fun h' tk' e d M => ?_)
    show MkP X pins σ Q (.ref e) ⟨h', g, dr, tk', os⟩
    obtain ⟨oe, fv, hoe, hc, hd, hdat, h1⟩ := M.obj
    have hns := M.ns
    obtain ⟨G', g1, g2⟩ := restrict h' fun b => decide (b ≠ e)
    have gk : ∀ b, b ≠ e → G'.get? b = h'.get? b := fun b hb => g1 b (decide_eq_true hb)
    have ge : G'.get? e = none := g2 e (by simp)
    have old : ∀ b o, hp.get? b = some o → G'.get? b = some o := fun b o q => (gk b (Nat.ne_of_lt (Nat.lt_of_lt_of_le (Heap.lt_size q) M.new))).trans (M.keep b o q)
    have ob : ObjOk X.prog X.w (upd H1 d (.xd [(("spot" : Str), v)])) G' d (.xd [(("spot" : Str), v)]) :=
      ⟨_, hns.at (fun o q => (gk d M.dne).trans q), fun f => relO_low rv f⟩
    have J : Inv X pins σ (upd H1 d (.xd [(("spot" : Str), v)])) ⟨G', g, dr, tk', os⟩ := I1.laid (t' := tk') old M.dbig ob
    refine ⟨e, oe, fv, ⟨G', g, dr, tk', os⟩, _, .ref C, some d, rfl, J, fun b o q => ?_, ge, hoe, ⟨hc, hd⟩, hdat, h1, ?_, rfl, I1.bare, raises_own T.exC T.tyC, q1 d (I1.hok.fresh M.dbig)⟩
    · by_cases hb : b = e
      · have q' : G'.get? b = some o := q
        rw [hb, ge] at q'; cases q'
      · exact (gk b hb).symm.trans q
    · rw [upd_ne (Ne.symm M.dne)]
      exact I1.hok.fresh M.new
/-- raise Low(e) -/
def tRaiseLow (C : Addr) (W : WX) (ta : TA) : TS := fun _ σ H => tMkLow C ta σ H fun cls d H' => W cls d σ H'
theorem ps_raiseLow {a : Expr} {ta : TA} {W : WX} {p pos pos2 : Pos} {k : Nat} (hc : X.calm = true) (T : PySem.LowX.LowTxt X.K X.mg C fI) (hr : Room k X.A) (tk : Takes X W) (ha : PA X [a] ta) (hg : Gl X "BadText" := by rfl)
    (he : starEach (a :: []) X.env = (false, eval a X.env) :: starEach [] X.env := by rfl) (hpl : (backTo pos (starEach [] X.env)).any (·.1) = false := by rfl) :
    PS X (.Raise (some (.Call (.Name "BadText" p) [a] [] pos)) none pos2) (tRaiseLow C W ta) := ps_raise hc tk (pmk_low T hr ha hg he hpl)
/-- low.by, low the exception that the suite holds (at a; its class cls, its dict d) -/
def tByLow (C : Addr) (a : Addr) (cls : Value) (d : Option Addr) (te : TE) : TE := fun σ H Q => te σ H fun x H1 => x = .ref a ∧ cls = .ref C ∧ ∃ (dd : Addr) (v : V), d = some dd ∧ H1 dd = some (.xd [(("spot" : Str), v)]) ∧ Q v H1
theorem pe_byLow {a : Addr} {oe : Obj} {cls : Value} {d : Option Addr} {pn : List (Addr × Obj)} {e : Expr} {te : TE} {pos : Pos} (T : PySem.LowX.LowTxt X.K X.mg C fI) (hz : Zc cls d oe) (hf : ∃ vs, oe.data = .fields vs) (he : PE (X.suite a ((a, oe) :: pn)) e te)
    (hb : attributeBase e "spot" X.env (eval e X.env) = eval e X.env := by rfl) :
    PE (X.suite a ((a, oe) :: pn)) (.Attribute e "spot" pos) (tByLow C a cls d te) := by
  refine ⟨fun pins s σ H Q I h => ?_⟩
  refine attr_of hb (thn (he.run pins s σ H _ I h) fun u s1 hh => ?_)
  obtain ⟨x, H1, I1, rx, ex, ec, dd, v, ed, ea, q⟩ := hh
  subst ex
  obtain rfl : u = Value.ref a := rx
  subst ec
  subst ed
  obtain ⟨ha, _⟩ := I1.pin (a, oe) (List.mem_append_left _ List.mem_cons_self)
  obtain ⟨vs, hd⟩ := hf
  have hx : ObjOk X.prog X.w H1 s1.heap dd (.xd [(("spot" : Str), v)]) := I1.hok dd _ ea
  obtain ⟨mA, hns, hr⟩ := hx
  obtain ⟨od, ho, hl⟩ := lookIn_ns hns
  have l : List.lookup ("spot" : Str) [(("spot" : Str), v)] = some v := by simp [List.lookup]
  obtain ⟨u, hu, ru⟩ := RelO.some_of (v := v) (o := mA "spot") (by rw [← l]; exact hr "spot")
  have J : PySem.W.InstAt s1.heap a oe C (some od) := ⟨ha, hz.1, by unfold PySem.W.notCls; rw [hd] <;> rfl, by rw [hz.2]; exact ho⟩
  exact HandSPX.exc_get I1.kIn J T.ga T.gg T.exC (PySem.W.findObj_own T.hdC T.noN rfl (by rw [hl, hu])) (handed_of ru) ⟨v, H1, I1.tok _, ru, q⟩
end
end L2

local macro_rules | `(tactic| walk_at "rd") => `(tactic| dsimp only [Evl.tCut, L2.tSeq, L2.tNext, L2.tRet, L2.tRetN, L2.tAsg, L2.gName, L2.tIfS, L2.tDrop, L2.tCons, L2.tNil, L2.tC, L2.tVar, L2.tCB, L2.tAndV, L2.tOrV, L2.tNotV, L2.tB, L2.tTest, L2.tOp, L2.tUn, L2.tNot, L2.tAnd, L2.tOr, L2.tIf, L2.tCall, L2.tTup, L2.tLst, L2.tNotT, L2.tYes, L2.gTup, L2.gCons, L2.gNil, L2.gSub, L2.tBM0, L2.tBM, L2.tWhile, L2.tFor, L2.iRng1, L2.iRng2, L2.tAugS, Tw.iEnumT, L2.tCKw, L2.tAug, L2.ipI, RT.iRevA, L2.tPar, L2.tPar3, L2.tSl, L2.tNoPart, L2.tPart, Tw.tRevT])
namespace K53
open PySem PySem.Spec PyProof.Rows L2 Tw
end K53

set_option Elab.async false
set_option linter.all false
set_option maxRecDepth 100000
set_option maxHeartbeats 8000000
local macro_rules | `(tactic| walk_at "rd") => `(tactic| dsimp only [Evl.tCut, L2.tSeq, L2.tNext, L2.tRet, L2.tRetN, L2.tAsg, L2.gName, L2.tIfS, L2.tDrop, L2.tCons, L2.tNil, L2.tC, L2.tVar, L2.tCB, L2.tAndV, L2.tOrV, L2.tNotV, L2.tB, L2.tTest, L2.tOp, L2.tUn, L2.tNot, L2.tAnd, L2.tOr, L2.tIf, L2.tCall, L2.tTup, L2.tLst, L2.tNotT, L2.tYes, L2.gTup, L2.gCons, L2.gNil, L2.gSub, L2.tBM0, L2.tBM, L2.tWhile, L2.tFor, L2.iRng1, L2.iRng2, L2.tAugS, Tw.iEnumT, L2.tCKw, L2.tAug, L2.ipI, RT.iRevA, L2.tPar, L2.tPar3, L2.tSl, L2.tNoPart, L2.tPart, Tw.tRevT])
namespace K53
open PySem PySem.Spec PyProof.Rows L2 Tw
/-- words_of of a thing that is no text: the error with its own dict -/
def spWX (C : Addr) : Sp := fun vs H Q E => ∃ (a : Addr) (v : V) (d : PyData), vs = [v] ∧ Da a H v d ∧ isStrD d = false ∧ ∀ dd, H dd = none → E (.ref C) (some dd) (upd H dd (.xd [(("spot" : Str), .non)]))
section
variable {P : Program} {w : World} {K : PySem.W.Frag} {mg : Str → Option Value} {base : Heap} {C fI : Addr}
theorem ok_wordsX {f : Addr} {fd : FuncData} (F : Fun K "words_of" "words_of" sWords f fd) (nb : Nb mg) (T : PySem.LowX.LowTxt K mg C fI) : FnOk P w K mg base (L2.CX P w) 4 f fd ["text"] (spWX C) := by
  refine F.okX scWords (fun vs H Q E h => ?_) (fun cdv A outer s H vs Q E hr h => ?_)
  · obtain ⟨a, v, d, rfl, _⟩ := h; rfl
  obtain ⟨a, v, d, rfl, hd, hs, q⟩ := h
  refine ⟨_, pss_cons (ps_if (pt_not (pt_val (pe_callB (id := "isinstance") (r := rIsi K) call_isi (by rfl) nb.isi (by decide +kernel) (pa_cons (pv 0) (pa_cons (pe_bltn (v := .ty "str") (by rfl) nb.str (by decide +kernel) rfl) pa_nil)))))
      (pss_one (ps_raiseLow rfl T hr (takes_of rfl rfl rfl rfl) (pa_cons pe_non pa_nil))) pss_nil) pss_dead, ?_⟩
  walk_at "rd"
  refine ⟨v, rfl, isi hd (isi_str d) ⟨isStrD d, rfl, ?_⟩⟩
  rw [hs]
  refine iteT ?_
  exact ⟨.non, rfl, q⟩
theorem takes_len {X : Cx} {W : WX} (t : Takes X W) : Takes X (fun c d σ H => σ.length = X.N.length → W c d σ H) := fun u s' ⟨a, B, sI, pins, σ, H, cls, d, e, I, nb, up, sky, na, os, ag, w⟩ => t u s' ⟨a, B, sI, pins, σ, H, cls, d, e, I, nb, up, sky, na, os, ag, w I.len⟩
theorem scSpotOf : FnScope ["_law_call", "e"] ["_law_call"] (defScope sSpotOf) := ⟨rfl, rfl, rfl, by decide +kernel, rfl, by decide +kernel, by decide +kernel⟩
/-- the spot of the error that the call ends with -/
def TTs (C : Addr) : (XK → Hp → VK → Prop) → Hp → VK → Prop := fun tl H Q =>
  tl (fun cls d H' => cls = .ref C ∧ ∃ dd, d = some dd ∧ H' dd = some (.xd [(("spot" : Str), .non)]) ∧ ∀ p, H' p = none → Q (.ref p) (upd H' p (.lst [.non]))) H (fun _ H' => ([] : List V).length ≤ sizeLine ∧ ∀ p, H' p = none → Q (.ref p) (upd H' p (.lst [])))
def tSuiteS (C : Addr) : Addr → Value → Option Addr → TS := fun a cls d => tRet (tLst (tCons (tByLow C a cls d (tVar 1)) tNil))
theorem spot_gives {X : Cx} {q : Str} {g : Addr} {cdg : Value} (T : PySem.LowX.LowTxt X.K X.mg C fI) :
    LamX.GivesTo X ["_law_call", "e"] "_law_spot_of" (defScope sSpotOf) g cdg (defBody sSpotOf) "_law_call" q (TTs C) := by
  intro f c' s H Q tl act hc h
  refine ⟨_, pss_cons (ps_try_as (i := 1) (tb := fun W D σ H => ∃ Ech : XK, (∀ cls d σ' H', Ech cls d H' → σ'.length = 2 → W cls d σ' H') ∧ σ[0]? = some (some (.ref f)) ∧ H c' = some (LamX.CodeO c' q) ∧ tl Ech H (fun _ H' => D.nx σ H')) (ts := tSuiteS C) (Wout := fun _ _ _ _ => False) rfl rfl scSpotOf.nd rfl rfl ⟨rfl, by decide, Or.inl T.gC⟩ LamX.takes0
      (fun W pn xe tk _ => pss_one ⟨fun pins s' σ H' D I h' => ?_⟩)
      (fun a oe cls d pn hz hf => pss_one (ps_ret (pe_lst (pa_cons (pe_byLow T hz hf (pv 1)) pa_nil)))))
    (pss_one (ps_ret (pe_lst pa_nil))), ?_⟩
  · obtain ⟨Ech, hW, h1, h2, h3⟩ := h'
    exact (ps_expr (act _ pn xe Ech _ _ (takes_len tk) hW)).run pins s' σ H' D I ⟨h1, h2, h3⟩
  · refine ⟨fun cls d H' => cls = .ref C ∧ ∃ dd, d = some dd ∧ H' dd = some (.xd [(("spot" : Str), .non)]) ∧ ∀ p, H' p = none → Q (.ref p) (upd H' p (.lst [.non])), fun cls d σ' H' h' hl => ?_, rfl, hc, ?_⟩
    · obtain ⟨rfl, dd, rfl, e1, e2⟩ := h'
      refine ⟨true, T.te, fun _ a0 _ => ?_, fun q => Bool.noConfusion q⟩
      refine ⟨.ref a0, ?_, rfl, rfl, dd, .non, rfl, e1, sz (by simp), fun p np => e2 p np⟩
      rw [List.getElem?_set_self (by omega)]
    · exact h
end
end K53

set_option Elab.async false
set_option linter.all false
set_option maxRecDepth 100000
set_option maxHeartbeats 8000000
local macro_rules | `(tactic| walk_at "rd") => `(tactic| dsimp only [Evl.tCut, L2.tSeq, L2.tNext, L2.tRet, L2.tRetN, L2.tAsg, L2.gName, L2.tIfS, L2.tDrop, L2.tCons, L2.tNil, L2.tC, L2.tVar, L2.tCB, L2.tAndV, L2.tOrV, L2.tNotV, L2.tB, L2.tTest, L2.tOp, L2.tUn, L2.tNot, L2.tAnd, L2.tOr, L2.tIf, L2.tCall, L2.tTup, L2.tLst, L2.tNotT, L2.tYes, L2.gTup, L2.gCons, L2.gNil, L2.gSub, L2.tBM0, L2.tBM, L2.tWhile, L2.tFor, L2.iRng1, L2.iRng2, L2.tAugS, Tw.iEnumT, L2.tCKw, L2.tAug, L2.ipI, RT.iRevA, L2.tPar, L2.tPar3, L2.tSl, L2.tNoPart, L2.tPart, Tw.tRevT])
namespace K53
open PySem PySem.Spec PyProof.Rows L2 Tw
/-- cdv is the code of the def at f -/
def CdAt (K : PySem.W.Frag) (f : Addr) (cdv : Value) : Prop := ∃ (oc : Value) (od : Option Addr) (x q : Str) (ar : Arguments) (bo : List Stmt) (sc : Scope) (kV doc pm : Value) (an : Option Addr) (ct : Value) (osl : Array (Option Value)), K.lookup f = some ⟨oc, od, .func (PySem.W.fnOf x q ar bo sc .none kV doc pm an cdv ct), osl⟩
section
variable {P : Program} {w : World} {K : PySem.W.Frag} {mg : Str → Option Value} {base : Heap} {k j : Nat} {f : Addr}
  {fd : FuncData} {ps : List Str} {sp : Sp}
/-- a def by its body, the place where it runs being quiet -/
theorem okGC {x qual : Str} {st : Stmt} {N : List Str} (F : Fun K x qual st f fd) (S : FnScope N ps (defScope st))
    (many : ∀ vs H Q E, sp vs H Q E → vs.length = ps.length)
    (hbody : ∀ (cdv : Value) (A : Around) (out : List Env) (s : Shared) (H : Hp) (vs : List V) (Q : VK) (E : XK),
      CdAt K f cdv → Qt (A.deeper (envOfC qual (defScope st) s.heap.objs.size f cdv)) →
      Room k (A.deeper (envOfC qual (defScope st) s.heap.objs.size f cdv)) → sp vs H Q E →
      ∃ t, PSs (cxOf CX0 P w K mg base N qual (defScope st) f cdv A out s H E).nox (defBody st) t ∧
        t { nx := fun _ H' => Q .non H', rt := Q } (start N vs) H) : FnG P w K mg base (k + 1) f fd ps sp := by
  obtain ⟨oc, od, kV, doc, pm, an, cdv, ct, osl, rfl, lk, hcd⟩ := F.ex
  refine ⟨many, fun A out s H g us vs Q E hq hr e0 hb r hsp => ?_⟩
  have hlen : vs.length = ps.length := many _ _ _ _ hsp
  have inS : ∀ b o, base.get? b = some o → s.heap.get? b = some o := fun b o e => (e0.bs b o e).1
  have kx : K.In s.heap := e0.mod.kin.keeps inS
  have nolim : s.heap.NoLimit := e0.mod.nolimit.keeps inS
  have kinds : ∀ y ∈ ps.zip us, (defScope st).names.lookup y.1 = some .local ∨
      ((defScope st).names.lookup y.1 = some .cell ∧
        ((cellsFrom (s.heap.objs.size + 1) (defScope st).names []).lookup y.1).isSome = true) := by
    rintro ⟨n, v⟩ hy
    cases S.par n (List.of_mem_zip hy).1 with
    | inl q => exact Or.inl q
    | inr q => exact Or.inr ⟨q, PySem.W.cellsFrom_some _ _ _ (Or.inl q)⟩
  have rec1 := PySem.W.codeRec_of kx hcd
  refine codeAny_call_function hr.depth (kx _ _ lk) rfl S.co S.gen rfl rec1 (hb _ _ _ _ ?_)
  refine wpAny_newFunctionEnv_cells S.kind kinds fun env he s1 x => ?_
  subst he
  refine ⟨nolim.keeps x.toInCall.keep, codeAny_func ?_⟩
  have hq' : Qt (A.deeper (envOfC qual (defScope st) s.heap.objs.size f cdv)) := hq
  obtain ⟨t, ht, hw⟩ := hbody cdv A out s H vs Q E ⟨oc, od, _, _, _, _, _, _, _, _, _, _, osl, lk⟩ hq' (hr.deeper _) hsp
  have I := inv_start (CX := CX0) (cd := cdv) (E := E) (f := f) (qual := qual) S hr.hd e0 hlen r x
  refine wpAny_mono (ht.nox.run [] s1 (start N vs) H _ I hw) (fun fl s' hs => ?_) fun e s' hs => hs
  cases fl with
  | ret u => obtain ⟨v, σ', H', J, rv, q⟩ := hs; exact ⟨v, H', J.os, J.bare, J.base, J.hok, rv, q⟩
  | next => obtain ⟨σ', H', J, q⟩ := hs; exact ⟨V.non, H', J.os, J.bare, J.base, J.hok, rfl, q⟩
  | brk => obtain ⟨_, _, _, q⟩ := hs; exact q.elim
  | cont => obtain ⟨_, _, _, q⟩ := hs; exact q.elim
end
/-- repr of True, False -/
def rShowB : List V → Hp → VK → Prop := fun xs H Q => ∃ b : Bool, xs = [.bl b] ∧ Q (.str (if b then "True" else "False")) H
theorem call_showB {X : Cx} : CallR X (.builtin "repr") rShowB := by
  intro pins s σ H xs us Q I r h
  obtain ⟨b, rfl, q⟩ := h
  obtain ⟨u, rfl, rx⟩ := vals1 r
  cases rx
  exact PySem.P.repr_of_bool ⟨.str _, H, I.tok _, ⟨_, rfl⟩, q⟩
/-! words joined -/
theorem str_app (z y : Str) : cd (z ++ y) = cd z ++ cd y := Array.toList_append
theorem join_cd (ys : List Str) : cd (Txt.join " " ys) = joinB (ys.map cd) := by
  show cd (PySem.Builtin.Str.glued " " ys) = _
  rw [PySem.StrLaws.glued_eq_join]
  induction ys with
  | nil => rfl
  | cons y r ih =>
    cases r with
    | nil => rfl
    | cons x r =>
        show cd (y ++ " " ++ Str.join " " (x :: r)) = _
        rw [str_app, str_app, ih, List.append_assoc]
        rfl
/-! a comprehension over words -/
theorem wipe2 (σ : L2.St) (i j : Nat) (h : i ≠ j) (x y : Option V) : wipe (((wipe σ [i, j]).set i x).set j y) [i, j] = wipe σ [i, j] := by
  refine List.ext_getElem? fun k => ?_
  simp only [wipe, List.foldr, List.foldl, List.getElem?_set, List.length_set]
  by_cases ki : i = k
  · subst ki
    by_cases kj : j = i
    · exact absurd kj.symm h
    · simp [kj]
  · by_cases kj : j = k
    · subst kj
      simp [ki]
    · simp [ki, kj]
section
variable {β : Type} {R : Hp → V → β → Prop} {g : Nat × List Nat → β} {K : PySem.W.Frag} {i j : Nat} {elt : TE} {σ : L2.St} {H : Hp} {Q : VK} {p : Addr} {xs : List V} {ws : List (Nat × List Nat)}
theorem lc_w (sR : Stable R) (ij : i ≠ j) (ht : H p = some (.lst xs)) (hd : RelA W2 H xs ws) (hn : ws.length < 100000)
    (he : ∀ u H1, u ∈ ws → Same H H1 → ∀ Z : VK, (∀ y H2, Same H1 H2 → R H2 y (g u) → Z y H2) → elt (((wipe σ [i, j]).set i (some (.int (u.1 : Int)))).set j (some (.str ⟨u.2.toArray⟩))) H1 Z)
    (q : ∀ D ys H', Same H H' → H D = none → H' D = some (.lst ys) → RelA R H' ys (ws.map g) → Q (.ref D) H') :
    tLc (fun _ H R => R (Itl K p) H) (gTup K 2 (gCons (gName i) (gCons (gName j) gNil))) tYes elt [i, j] σ H Q := by
  refine fun D hD => ?_
  refine lc_list (xs := xs) (fun m H' => Same H H' ∧ ∃ ys, H' D = some (.lst ys) ∧ RelA R H' ys ((ws.take m).map g)) ⟨same_new hD, [], upd_same, rfl, fun i v e => by simp at e⟩ (fun m H' _ h => SqL.of (h.1 _ _ ht)) (fun m x H1 hx h => ?_) (fun H' h => ?_)
  · obtain ⟨h1, ys, h2, h3⟩ := h
    obtain ⟨u, e1, p2, rfl, e2⟩ := hd.2 m x hx
    have hm : m < xs.length := (List.getElem?_eq_some_iff.mp hx).1
    have hx2 := hd.1
    dsimp only [L2.gTup, L2.gCons, L2.gNil, L2.gName]
    refine ⟨p2, _, rfl, SqT.of (h1 _ _ e2), rfl, _, _, rfl, _, _, rfl, rfl, wipe2 σ i j ij _ _, ?_⟩
    unfold tYes
    simp only [if_true]
    refine he u H1 (List.mem_of_getElem? e1) h1 _ fun y H2 s2 ry => ?_
    obtain ⟨a1, a2, a3, a4, a5⟩ := rel_step sR hD h2 h1 s2 e1 h3 ry
    exact ⟨ys, a1, lt_line (by omega), a3, _, a4, a5⟩
  · obtain ⟨h1, ys, h2, h3⟩ := h
    rw [hd.1, List.take_length] at h3
    exact q D ys H' h1 hD h2 h3
end
/-! odd things -/
def litM : Expr → Option PyData
  | .BinOp (.Constant (.str x) _ _) .Mult (.Constant (.int n) _ _) _ => if x.length ≤ 4 ∧ 0 ≤ n ∧ n ≤ 100 then some (.str (Txt.mul x n)) else none
  | e => litOf e
def litsM : List Expr → Option (List PyData)
  | [] => some []
  | e :: es => match litM e, litsM es with
    | some d, some ds => some (d :: ds)
    | _, _ => none
section
variable {X : Cx}
theorem pe_litM (e : Expr) {d : PyData} (h : litM e = some d) : PE X e (tLit d) := by
  unfold litM at h
  split at h
  · split at h
    · rename_i c
      have e := Option.some.inj h
      subst e
      exact (pe_op op_mul_str pe_str pe_int).weak fun σ H Q ⟨a, _, q⟩ => ⟨_, _, rfl, rfl, PyProof.Rows.mulOk_of 4 100 c.1 (by omega) (by omega) (by decide) (by decide), q _ _ (Same.refl H) (.str _)⟩
    · cases h
  · exact pe_lit _ h
theorem star_litM {e : Expr} {es : List Expr} {env : Env} {d : PyData} (h : litM e = some d) : starEach (e :: es) env = (false, eval e env) :: starEach es env := by
  unfold litM at h
  split at h
  · rfl
  · exact star_lit h
theorem pa_litsM : ∀ (es : List Expr) {ds : List PyData}, litsM es = some ds → PA X es (tLits ds)
  | [], _, h => by
    have e := Option.some.inj h; subst e
    exact pa_nil.weak fun σ H Q ⟨a, _, q⟩ => q _ _ (Same.refl H) .nil
  | e :: es, ds, h => by
    simp only [litsM] at h
    split at h
    · rename_i d ds' hd hds
      have z := Option.some.inj h; subst z
      refine (pa_cons (pe_litM e hd) (pa_litsM es hds) (star_litM hd)).weak fun σ H Q ⟨a, n, q⟩ => ⟨a, n, fun v H1 s1 d1 => ⟨a, same_some s1 n, fun vs H2 s2 d2 => ?_⟩⟩
      exact q _ _ (s1.trans s2) (.cons (d1.same s2) d2)
    · cases h
end
end K53

set_option Elab.async false
set_option linter.all false
set_option maxRecDepth 100000
set_option maxHeartbeats 16000000
local macro_rules | `(tactic| walk_at "rd") => `(tactic| dsimp only [Evl.tCut, L2.tSeq, L2.tNext, L2.tRet, L2.tRetN, L2.tAsg, L2.gName, L2.tIfS, L2.tDrop, L2.tCons, L2.tNil, L2.tC, L2.tVar, L2.tCB, L2.tAndV, L2.tOrV, L2.tNotV, L2.tB, L2.tTest, L2.tOp, L2.tUn, L2.tNot, L2.tAnd, L2.tOr, L2.tIf, L2.tCall, L2.tTup, L2.tLst, L2.tNotT, L2.tYes, L2.gTup, L2.gCons, L2.gNil, L2.gSub, L2.tBM0, L2.tBM, L2.tWhile, L2.tFor, L2.iRng1, L2.iRng2, L2.tAugS, Tw.iEnumT, L2.tCKw, L2.tAug, L2.ipI, RT.iRevA, L2.tPar, L2.tPar3, L2.tSl, L2.tNoPart, L2.tPart, Tw.tRevT])
namespace K53
open PySem PySem.Spec PyProof.Rows L2 Tw
theorem ne_same (x : Str) : (!decide (V.str x = V.str x)) = false := by simp
theorem eq_same (x : Str) : (decide (V.str x = V.str x)) = true := by simp
def oddD : List PyData := [.none, .bool true, .int 0, .int 7, .tuple [], .tuple [.str "a"], .list [.str "a"], .dict [], .str "", .str "a b", .str " a", .str "a\n", .str "Ab", .str "a-b", .str "_a", .tuple [.int 1, .int 2], .str "x_", .str "xy", .str "lets", .str (Txt.mul "a" 24), .str (Txt.mul "a" 25)]
theorem toks_len : ∀ (n : Nat) (cs : List Nat) (at_ : Nat), cs.length ≤ n → (toks at_ cs).length ≤ cs.length
  | 0, cs, at_, h => by
    have : cs = [] := List.eq_nil_of_length_eq_zero (by omega)
    subst this
    rw [toks_nil]
    exact Nat.le_refl _
  | n + 1, [], at_, h => by
    rw [toks_nil]
    exact Nat.le_refl _
  | n + 1, c :: r, at_, h => by
    have hr : r.length ≤ n := by rw [List.length_cons] at h; omega
    cases hb : isB c with
    | true =>
      rw [toks_blank hb, List.length_cons]
      have := toks_len n r (at_ + 1) hr
      omega
    | false =>
      by_cases h2 : c = 35
      · subst h2
        rw [toks_remark, List.length_cons]
        have := toks_len n (r.drop (run notL r)) (at_ + 1 + run notL r) (by rw [List.length_drop]; omega)
        rw [List.length_drop] at this
        omega
      · have tp := tokLen_pos c r
        have tl := tokLen_le (c :: r)
        have := toks_len n ((c :: r).drop (tokLen (c :: r))) (at_ + tokLen (c :: r)) (by rw [List.length_drop, List.length_cons]; omega)
        rw [toks_word hb h2, List.length_cons]
        rw [List.length_drop] at this
        omega
section
variable {β : Type} {R : Hp → V → β → Prop} {g : Nat × List Nat → β} {K : PySem.W.Frag} {i j : Nat} {elt te : TE} {σ : L2.St} {H : Hp} {Q : VK} {xs : List V} {ws : List (Nat × List Nat)}
theorem lc_wT (hte : ∀ R : VK, (∀ p H1, Same H H1 → H1 p = some (.lst xs) → R (.ref p) H1) → te σ H R) (sR : Stable R) (ij : i ≠ j) (hd : RelA W2 H xs ws) (hn : ws.length < 100000)
    (he : ∀ u H1, u ∈ ws → Same H H1 → ∀ Z : VK, (∀ y H2, Same H1 H2 → R H2 y (g u) → Z y H2) → elt (((wipe σ [i, j]).set i (some (.int (u.1 : Int)))).set j (some (.str ⟨u.2.toArray⟩))) H1 Z)
    (q : ∀ D ys H', Same H H' → H D = none → H' D = some (.lst ys) → RelA R H' ys (ws.map g) → Q (.ref D) H') :
    tLc (iList K te) (gTup K 2 (gCons (gName i) (gCons (gName j) gNil))) tYes elt [i, j] σ H Q :=
  hte _ fun p H1 s1 e1 => ⟨p, rfl, ⟨xs, SqL.of e1⟩, lc_w (K := K) (Q := Q) sR ij e1 (hd.kt stable_w2 (Kt.of s1)) hn (fun u H2 hu s2 => he u H2 hu (s1.trans s2)) (fun D ys H' s2 nD => q D ys H' (s1.trans s2) (s1.free nD))⟩
end
def pos : List (List Nat) → Nat
  | [] => 0
  | w :: ws => w.length + 1 + pos ws
theorem pos_app : ∀ (ws : List (List Nat)) (w : List Nat), pos (ws ++ [w]) = pos ws + w.length + 1
  | [], w => by simp [pos]
  | v :: ws, w => by rw [List.cons_append, pos, pos, pos_app ws w]; omega
theorem spots_app : ∀ (ws : List (List Nat)) (k : Nat) (w : List Nat), spots k (ws ++ [w]) = spots k ws ++ [(k + pos ws, w)]
  | [], k, w => by simp [spots, pos]
  | v :: ws, k, w => by
    rw [List.cons_append, spots, spots_app ws _ w, spots, pos, List.cons_append]
    rw [show k + v.length + 1 + pos ws = k + (v.length + 1 + pos ws) from by omega]
theorem spots_len : ∀ (ws : List (List Nat)) (k : Nat), (spots k ws).length = ws.length
  | [], k => rfl
  | v :: ws, k => by rw [spots, List.length_cons, spots_len ws, List.length_cons]
theorem relA_app {H : Hp} {xs ys : List V} {us vs : List (Nat × List Nat)} (h : RelA W2 H xs us) (g : RelA W2 H ys vs) : RelA W2 H (xs ++ ys) (us ++ vs) := by
  have h1 := h.1
  refine ⟨by rw [List.length_append, List.length_append, h.1, g.1], fun i v e => ?_⟩
  rcases Nat.lt_or_ge i xs.length with c | c
  · rw [List.getElem?_append_left c] at e
    obtain ⟨r, e1, e2⟩ := h.2 i v e
    exact ⟨r, by rw [List.getElem?_append_left (by omega)]; exact e1, e2⟩
  · rw [List.getElem?_append_right c] at e
    obtain ⟨r, e1, e2⟩ := g.2 _ v e
    exact ⟨r, by rw [List.getElem?_append_right (by omega), ← h1]; exact e1, e2⟩
theorem join_size : ∀ ws : List (Nat × List Nat), ((ws.map fun w => (⟨w.2.toArray⟩ : Str)).map (·.length)).sum + ws.length ≤ sumL ws
  | [] => Nat.le_refl _
  | w :: ws => by
    have := join_size ws
    rw [List.map_cons, List.map_cons, List.sum_cons, List.length_cons, sumL]
    have e : (⟨w.2.toArray⟩ : Str).length = w.2.length := List.size_toArray
    rw [e]
    omega
theorem pos_le : ∀ ws : List (Nat × List Nat), pos (ws.map (·.2)) ≤ sumL ws
  | [] => Nat.le_refl _
  | w :: ws => by rw [List.map_cons, pos, sumL]; have := pos_le ws; omega
theorem sumL_mem : ∀ (ws : List (Nat × List Nat)) (u : Nat × List Nat), u ∈ ws → u.2.length ≤ sumL ws
  | w :: ws, u, h => by
    rw [sumL]
    rcases List.mem_cons.mp h with rfl | h
    · omega
    · have := sumL_mem ws u h
      omega
def q0 : Str := (envOfC "_law_is_right" (defScope sRight) 0 0 .none).qual ++ "<lambda>"
/-- all but the well and the tables stays -/
def KeN (a : Addr) (H H' : Hp) : Prop := ∀ b o, b ≠ a → H b = some o → (∀ ps, o ≠ .tbl ps) → H' b = some o
def spRight (P0 : Addr) : Sp := fun vs H Q _ => ∃ a, vs = [.ref a] ∧ Wl a H ∧ LamX.Tabs [(P0, q0)] H ∧ ∀ H', KeN a H H' → LamX.Tabs [(P0, q0)] H' → Q (.bl true) H'
theorem cutS_len (z : Str) (a b : Option Int) : (cutS z a b).length ≤ z.length := by
  have l : z.cps.toList.length = z.length := cd_len z
  unfold cutS
  show (List.toArray _).size ≤ _
  rw [List.size_toArray, List.length_take, List.length_drop]
  omega
theorem it_cat {K : PySem.W.Frag} {A B : TE} {σ : L2.St} {H : Hp} {R : It → Hp → Prop} (h : A σ H fun x H1 => B σ H1 fun y H2 => rCat x y H2 fun v H3 => ∃ a, v = .ref a ∧ (∃ xs, SqL K H3 a xs) ∧ R (Itl K a) H3) : iList K (tOp rCat A B) σ H R := h
theorem relA_take {H : Hp} {xs : List V} {ws : List (Nat × List Nat)} (h : RelA W2 H xs ws) (n : Nat) : RelA W2 H (xs.take n) (ws.take n) := by
  refine ⟨by rw [List.length_take, List.length_take, h.1], fun i v e => ?_⟩
  rw [List.getElem?_take] at e
  split at e
  · rename_i c
    obtain ⟨r, e1, e2⟩ := h.2 i v e
    exact ⟨r, by rw [List.getElem?_take, if_pos c]; exact e1, e2⟩
  · cases e
theorem relA_drop {H : Hp} {xs : List V} {ws : List (Nat × List Nat)} (h : RelA W2 H xs ws) (n : Nat) : RelA W2 H (xs.drop n) (ws.drop n) := by
  refine ⟨by rw [List.length_drop, List.length_drop, h.1], fun i v e => ?_⟩
  rw [List.getElem?_drop] at e
  obtain ⟨r, e1, e2⟩ := h.2 _ v e
  exact ⟨r, by rw [List.getElem?_drop]; exact e1, e2⟩
theorem relA_cut {H : Hp} {xs : List V} {ws : List (Nat × List Nat)} (h : RelA W2 H xs ws) (a b : Option Int) : ∃ vs : List (Nat × List Nat), RelA W2 H (L2.cutV xs a b) vs ∧ (∀ v ∈ vs, v ∈ ws) ∧ vs.length ≤ ws.length := by
  refine ⟨_, relA_take (relA_drop h _) _, fun v hv => List.mem_of_mem_drop (List.mem_of_mem_take hv), ?_⟩
  rw [List.length_take, List.length_drop]
  omega
def lenOk : PyData → Bool
  | .str z => decide (z.length ≤ 50000)
  | _ => true
theorem odd_ok : oddD.all lenOk = true := by decide +kernel
section
mutual
theorem da_keN {a : Addr} {H H' : Hp} (k : KeN a H H') : ∀ {v : V} {d : PyData}, Da a H v d → Da a H' v d
  | _, _, .non => .non
  | _, _, .bl b => .bl b
  | _, _, .int i => .int i
  | _, _, .str x => .str x
  | _, _, .lst n h t => .lst n (k _ _ n h (fun _ z => by cases z)) (daAll_keN k t)
  | _, _, .tup n h t => .tup n (k _ _ n h (fun _ z => by cases z)) (daAll_keN k t)
  | _, _, .dct n h => .dct n (k _ _ n h (fun _ z => by cases z))
theorem daAll_keN {a : Addr} {H H' : Hp} (k : KeN a H H') : ∀ {vs : List V} {ds : List PyData}, DaAll a H vs ds → DaAll a H' vs ds
  | _, _, .nil => .nil
  | _, _, .cons h t => .cons (da_keN k h) (daAll_keN k t)
end
end
theorem KeN.of {a : Addr} {H H' : Hp} (k : Kp a H H') : KeN a H H' := fun b o n e _ => k b o n e
theorem tabs_kp {a P0 : Addr} {H H' : Hp} (w : Wl a H) (k : Kp a H H') (t : LamX.Tabs [(P0, q0)] H) : LamX.Tabs [(P0, q0)] H' := fun p hp => by
  obtain ⟨x, y, z, u, ha⟩ := w
  obtain ⟨ps, h1, h2, h3⟩ := t p hp
  refine ⟨ps, k _ _ (fun z => by rw [z, ha] at h1; cases h1) h1, h2, fun pos cv hc => ?_⟩
  obtain ⟨c, e1, e2⟩ := h3 pos cv hc
  exact ⟨c, e1, k _ _ (fun z => by rw [z, ha] at e2; unfold LamX.CodeO at e2; cases e2) e2⟩
section
variable {P : Program} {w : World} {K : PySem.W.Frag} {mg : Str → Option Value} {base : Heap} {C fI c0 P0 : Addr}
theorem scRight : FnScope ["_law_well_here", "_law_text_here", "_law_other", "_law_due", "_law_more", "_law_again", "_law_ahead", "_law_spot", "_law_word", "_law_far", "_law_odd", "_law_each"] ["_law_well_here"] (defScope sRight) := ⟨rfl, rfl, rfl, by decide +kernel, rfl, by decide +kernel, by decide +kernel⟩
theorem ok_right (D : Def K mg "_law_is_right" sRight ["_law_well_here"]) (nb : Nb mg) (T : PySem.LowX.LowTxt K mg C fI) (Dw : Def K mg "words_of" sWords ["text"]) (Ds : Def K mg "_law_spot_of" sSpotOf ["_law_call"]) (TB : LamX.TabB base mg c0 P0)
    (hcd : ∀ f cdv, mg "_law_is_right" = some (.ref f) → CdAt K f cdv → cdv = .ref c0)
    (ctext : Cal P w K mg base "_law_text" 4 ["_law_well_here"] spText) (cscan : Cal P w K mg base "_law_scan" 1 ["_law_text_here"] spScan) (cwords : Cal P w K mg base "words_of" 3 ["text"] spWords)
    (cpick : Cal P w K mg base "_law_pick" 2 ["_law_well_here", "_law_some"] spPick) (cname : Cal P w K mg base "_law_name" 2 ["_law_well_here"] spName) (cfree : Cal P w K mg base "is_free_name" 2 ["value"] spNm) (cisn : Cal P w K mg base "_law_is_name" 2 ["_law_thing"] spNm) :
    CalG P w K mg base "_law_is_right" 11 ["_law_well_here"] (spRight P0) := by
  obtain ⟨f, fd, F, m, b⟩ := D
  refine ⟨f, fd, okGC (k := 10) F scRight (fun vs H Q E h => ?_) (fun cdv A out s H vs Q E cdAt hq hr h => ?_), m, F.kp, b, fdAt F⟩
  · obtain ⟨a, rfl, _⟩ := h; rfl
  obtain ⟨a, rfl, hw, hT, q⟩ := h
  have ecd := hcd f cdv m cdAt
  subst ecd
  have hu : (A.deeper (envOfC "_law_is_right" (defScope sRight) s.heap.objs.size f (.ref c0))).units + 70 < cLine := by have := hr.un; omega
  obtain ⟨fw, fdw, Fw, mw, bw⟩ := Dw
  obtain ⟨fs, fds, Fs, ms, bs⟩ := Ds
  have FX : FnOk P w K mg base (L2.CX P w) 4 fw fdw ["text"] (spWX C) := ok_wordsX Fw nb T
  have kw := Fw.kp
  have ks := Fs.kp
  obtain ⟨oc, od, kV, doc, pm, an, cdvs, ct, osl, efd, lk, hcds⟩ := Fs.ex
  subst efd
  refine ⟨_, pss_cons (ps_par (i := 1) (j := 2) rfl scRight.nd rfl rfl (by decide) rfl rfl (pa_cons (pe_cal ctext hr (by decide) (by rfl) (pa_cons (pv 0) pa_nil)) (pa_cons (pe_cal ctext hr (by decide) (by rfl) (pa_cons (pv 0) pa_nil)) pa_nil)) rfl)
    (pss_cons (ps_par (i := 3) (j := 4) rfl scRight.nd rfl rfl (by decide) rfl rfl (pa_cons (pe_cal cscan hr (by decide) (by rfl) (pa_cons (pv 1) pa_nil)) (pa_cons (pe_cal cscan hr (by decide) (by rfl) (pa_cons (pv 2) pa_nil)) pa_nil)) rfl)
    (pss_cons (ps_if (pt_cmpR op_ne (pe_callB (id := "repr") (r := rShow K) (call_show hq hu) (by rfl) nb.repr (by decide +kernel) (pa_cons (pe_cal cwords hr (by decide) (by rfl) (pa_cons (pv 1) pa_nil)) pa_nil)) (pe_callB (id := "repr") (r := rShow K) (call_show hq hu) (by rfl) nb.repr (by decide +kernel) (pa_cons (pe_callTy (T := "tuple") call_tuple_of (by rfl) nb.tup (by decide +kernel) (pa_cons (pv 3) pa_nil)) pa_nil)) (nomark _)) (pss_one (ps_ret pe_bl)) pss_nil)
    (pss_cons (ps_par (i := 5) (j := 6) rfl scRight.nd rfl rfl (by decide) rfl rfl (pa_cons (pe_lst pa_nil) (pa_cons pe_int pa_nil)) rfl)
    (pss_cons (ps_for PassesOwn.never rfl (pi_list (pv 3)) (pg_tup rfl (pgs_cons (pg_name (i := 7) scRight.nd rfl (Or.inl rfl)) (pgs_cons (pg_name (i := 8) scRight.nd rfl (Or.inl rfl)) pgs_nil)))
      (pss_cons (ps_expr (pe_bm PySem.F.plainAttrs_list PySem.F.slot_list_append PySem.F.type_list_append mt_append (pv 5) (pa_cons (pe_tup (pa_cons (pv 6) (pa_cons (pv 8) pa_nil))) pa_nil)))
      (pss_one (ps_set (i := 6) scRight.nd rfl (Or.inl rfl) (pe_op op_add (pe_op op_add (pv 6) (pe_callB (id := "len") call_len_str (by rfl) nb.len PySem.boot_len (pa_cons (pv 8) pa_nil))) pe_int)))))
    (pss_cons (ps_if (pt_cmpR op_ne (pe_callB (id := "repr") (r := rShow K) (call_show hq hu) (by rfl) nb.repr (by decide +kernel) (pa_cons (pe_cal cwords hr (by decide) (by rfl) (pa_cons (pe_bm PySem.F.plainAttrs_str PySem.F.slot_str_join PySem.F.type_str_join mt_join pe_str (pa_cons (pe_lc (own := [("_law_spot", 7), ("_law_word", 8)]) (g := gTup K 2 (gCons (gName 7) (gCons (gName 8) gNil))) (tt := tYes) rfl scRight.nd (pi_list (pv 3)) (blkOk_by (N := ["_law_well_here", "_law_text_here", "_law_other", "_law_due", "_law_more", "_law_again", "_law_ahead", "_law_spot", "_law_word", "_law_far", "_law_odd", "_law_each"]) (sc := defScope sRight) (by decide +kernel)) (fun _ _ _ _ _ => (pg_tup rfl (pgs_cons (pg_name (i := 7) scRight.nd rfl (Or.inl rfl)) (pgs_cons (pg_name (i := 8) scRight.nd rfl (Or.inl rfl)) pgs_nil)))) (fun _ _ _ _ _ => pts_nil) (fun _ _ _ _ _ => (pv 8))) pa_nil)) pa_nil)) pa_nil)) (pe_callB (id := "repr") (r := rShow K) (call_show hq hu) (by rfl) nb.repr (by decide +kernel) (pa_cons (pe_callTy (T := "tuple") call_tuple_of (by rfl) nb.tup (by decide +kernel) (pa_cons (pv 5) pa_nil)) pa_nil)) (nomark _)) (pss_one (ps_ret pe_bl)) pss_nil)
    (pss_cons (ps_set (i := 9) scRight.nd rfl (Or.inr rfl) (pe_op op_add (pe_callB (id := "len") call_len_str (by rfl) nb.len PySem.boot_len (pa_cons (pv 1) pa_nil)) pe_int))
    (pss_cons (ps_if (pt_cmpR op_ne (pe_callB (id := "repr") (r := rShow K) (call_show hq hu) (by rfl) nb.repr (by decide +kernel) (pa_cons (pe_cal cwords hr (by decide) (by rfl) (pa_cons (pe_op op_add_str (pe_op op_add_str (pv 1) pe_str) (pv 2)) pa_nil)) pa_nil)) (pe_callB (id := "repr") (r := rShow K) (call_show hq hu) (by rfl) nb.repr (by decide +kernel) (pa_cons (pe_callTy (T := "tuple") call_tuple_of (by rfl) nb.tup (by decide +kernel) (pa_cons (pe_op op_cat (pv 3) (pe_lc (own := [("_law_spot", 7), ("_law_word", 8)]) (g := gTup K 2 (gCons (gName 7) (gCons (gName 8) gNil))) (tt := tYes) rfl scRight.nd (pi_list (pv 4)) (blkOk_by (N := ["_law_well_here", "_law_text_here", "_law_other", "_law_due", "_law_more", "_law_again", "_law_ahead", "_law_spot", "_law_word", "_law_far", "_law_odd", "_law_each"]) (sc := defScope sRight) (by decide +kernel)) (fun _ _ _ _ _ => (pg_tup rfl (pgs_cons (pg_name (i := 7) scRight.nd rfl (Or.inl rfl)) (pgs_cons (pg_name (i := 8) scRight.nd rfl (Or.inl rfl)) pgs_nil)))) (fun _ _ _ _ _ => pts_nil) (fun _ _ _ _ _ => (pe_tup (pa_cons (pe_op op_add (pv 7) (pv 9)) (pa_cons (pv 8) pa_nil)))))) pa_nil)) pa_nil)) (nomark _)) (pss_one (ps_ret pe_bl)) pss_nil)
    (pss_cons (ps_set (i := 10) scRight.nd rfl (Or.inr rfl) (pe_cal cpick hr (by decide) (by rfl) (pa_cons (pv 0) (pa_cons (pe_tup (pa_litsM (ds := oddD) _ (by rfl))) pa_nil))))
    (pss_cons (ps_for PassesOwn.never rfl (pi_list (pe_op op_cat (pe_lc (own := [("_law_spot", 7), ("_law_word", 8)]) (g := gTup K 2 (gCons (gName 7) (gCons (gName 8) gNil))) (tt := tYes) rfl scRight.nd (pi_list (pe_slice sl_list (pv 3) po_none (po_some pe_int))) (blkOk_by (N := ["_law_well_here", "_law_text_here", "_law_other", "_law_due", "_law_more", "_law_again", "_law_ahead", "_law_spot", "_law_word", "_law_far", "_law_odd", "_law_each"]) (sc := defScope sRight) (by decide +kernel)) (fun _ _ _ _ _ => (pg_tup rfl (pgs_cons (pg_name (i := 7) scRight.nd rfl (Or.inl rfl)) (pgs_cons (pg_name (i := 8) scRight.nd rfl (Or.inl rfl)) pgs_nil)))) (fun _ _ _ _ _ => pts_nil) (fun _ _ _ _ _ => (pv 8))) (pe_lst (pa_cons (pv 10) (pa_cons (pe_cal cname hr (by decide) (by rfl) (pa_cons (pv 0) pa_nil)) (pa_cons (pe_slice sl_str (pv 1) po_none (po_some pe_int)) pa_nil)))))) (pg_name (i := 11) scRight.nd rfl (Or.inl rfl))
      (pss_one (ps_if (pt_cmpR op_ne (pe_callB (id := "repr") (r := rShowB) call_showB (by rfl) nb.repr (by decide +kernel) (pa_cons (pe_cal cfree hr (by decide) (by rfl) (pa_cons (pv 11) pa_nil)) pa_nil)) (pe_callB (id := "repr") (r := rShowB) call_showB (by rfl) nb.repr (by decide +kernel) (pa_cons (pe_cal cisn hr (by decide) (by rfl) (pa_cons (pv 11) pa_nil)) pa_nil)) (nomark _)) (pss_one (ps_ret pe_bl)) pss_nil)))
    (pss_one (ps_ret (pe_or (pe_callB (id := "isinstance") (r := rIsi K) call_isi (by rfl) nb.isi (by decide +kernel) (pa_cons (pv 10) (pa_cons (pe_bltn (v := .ty "str") (by rfl) nb.str (by decide +kernel) rfl) pa_nil))) (pe_one (pe_cmpR op_eq (pe_callB (id := "repr") (r := rShow K) (call_show hq hu) (by rfl) nb.repr (by decide +kernel) (pa_cons (LamX.pe_lamcall (T := [(P0, q0)]) (Ng := ["_law_call", "e"]) (k := 5) (t := fun E => tCallS (spWX C) (WE (fun cls d _ H => E cls d H)) (tCons (tVar 10) tNil)) (by rfl) ms ks lk hcds bs scSpotOf rfl (Or.inl rfl) (spot_gives T) TB rfl (by exact List.mem_singleton.mpr rfl) (fun p hp e => by rw [List.mem_singleton.mp hp]; rfl) (hr.mono (by decide)) (LamX.lamS_by (sc := defScope sRight) (by decide +kernel)) rfl (fun _ _ _ _ _ => rfl) (fun A2 o2 s2 H2 E2 f2 c2 hr2 => pe_callS FX (hr2.mono (by decide)) (by rfl) mw kw bw (fun σ => passAt (takes_of rfl rfl rfl rfl) σ) (pa_cons (pv 10) pa_nil))) pa_nil)) pe_str (nomark _))))))))))))))), ?_⟩
  walk_at "rd"
  refine ⟨.ref a, rfl, a, rfl, hw, fun z1 H1 k1 w1 m1 => ⟨.ref a, rfl, a, rfl, w1, fun z2 H2 k2 w2 m2 => ⟨_, _, rfl, ?_⟩⟩⟩
  have l1 := m1.len
  have l2 := m2.len
  have c1 := cd_len z1
  have c2 := cd_len z2
  have t1 := bw_toks (z := cd z1) (by omega) m1.2
  have t2 := bw_toks (z := cd z2) (by omega) m2.2
  have lt1 := toks_len (cd z1).length (cd z1) 0 (Nat.le_refl _)
  have lt2 := toks_len (cd z2).length (cd z2) 0 (Nat.le_refl _)
  refine ⟨.str z1, rfl, z1, rfl, by omega, fun L1 xs1 H3 s3 n3 e3 r3 => ⟨.str z2, rfl, z2, rfl, by omega, fun L2 xs2 H4 s4 n4 e4 r4 => ⟨_, _, rfl, ?_⟩⟩⟩
  have w4 : Wl a H4 := (w2.to s3).to s4
  have k4 : Kp a H H4 := ((k1.trans k2).trans (Kp.of s3)).trans (Kp.of s4)
  have e3' := s4 _ _ e3
  have r3' := r3.kt stable_w2 (Kt.of s4)
  have hw0 := hw
  have hT0 := hT
  clear hw hT
  refine ⟨.str z1, rfl, z1, rfl, by omega, fun p5 xs5 H5 s5 e5 r5 => show_words (w4.to s5) e5 r5 t1 ?_⟩
  have e35 := s5 _ _ e3'
  have e45 := s5 _ _ e4
  refine ⟨.ref L1, rfl, L1, xs1, rfl, .inl ⟨SqL.of e35, fun t6 n6 => show_words ((w4.to s5).to (same_new n6)) upd_same (r3'.kt stable_w2 (Kt.of (s5.trans (same_new n6)))) t1 ⟨rfl, _, rfl, ?_⟩⟩⟩
  rw [ne_same]
  have s6 := s5.trans (same_new (o := .tup xs1) n6)
  have w6 := w4.to s6
  generalize upd H5 t6 (.tup xs1) = H6 at s6 w6 ⊢
  clear s5 e35 e45 e5 r5
  refine iteF ⟨sz (by simp), fun L n7 => ⟨_, _, rfl, ?_⟩⟩
  have s7 := s6.trans (same_new (o := .lst []) n7)
  have w7 := w4.to s7
  have eL : upd H6 L (.lst []) L = some (.lst []) := upd_same
  generalize upd H6 L (.lst []) = H7 at s7 w7 eL ⊢
  have fL : H4 L = none := s6.free n7
  have lx1 := r3'.1
  have lx2 := r4.1
  have sl1 := (toks_bw (cd z1).length (cd z1) 0 (Nat.le_refl _) m1.2).2
  generalize hu1 : toks 0 (cd z1) = u1 at *
  generalize hu2 : toks 0 (cd z2) = u2 at *
  refine ⟨.ref L1, rfl, L1, rfl, ⟨xs1, SqL.of (s7 _ _ e3')⟩, for_lst (xs := xs1) (fun i σ H' => ∃ (x7 x8 : Option V) (ys : List V), σ = [some (.ref a), some (.str z1), some (.str z2), some (.ref L1), some (.ref L2), some (.ref L), some (.int ((pos ((u1.map (·.2)).take i) : Nat) : Int)), x7, x8, none, none, none] ∧ Same H4 H' ∧ H' L = some (.lst ys) ∧ RelA W2 H' ys (spots 0 ((u1.map (·.2)).take i))) ⟨none, none, [], rfl, s7, eL, ⟨rfl, fun i v e => by simp at e⟩⟩ (fun i σ' H' _ h => ?_) (fun i x σ' H' hx h => ?_) (fun σ' H' h => ?_)⟩
  · obtain ⟨x7, x8, ys, rfl, s8, e8, r8⟩ := h
    exact SqL.of (s8 _ _ e3')
  · obtain ⟨x7, x8, ys, rfl, s8, e8, r8⟩ := h
    obtain ⟨u, e1, p2, rfl, e2⟩ := r3'.2 i x hx
    have hi : i < u1.length := (List.getElem?_eq_some_iff.mp e1).1
    have et : (u1.map (·.2)).take (i + 1) = (u1.map (·.2)).take i ++ [u.2] := by
      rw [List.take_add_one, List.getElem?_map, e1]; rfl
    have ly : ys.length = i := by rw [r8.1, spots_len, List.length_take, List.length_map]; omega
    have zu : (⟨u.2.toArray⟩ : Str).length = u.2.length := List.size_toArray
    have ub : u.2.length ≤ 100000 := by
      have := sumL_mem u1 u (List.mem_of_getElem? e1)
      omega
    refine ⟨p2, _, rfl, SqT.of (s8 _ _ e2), rfl, _, _, rfl, _, _, rfl, rfl, ?_⟩
    refine ⟨.ref L, rfl, .inl ⟨rfl, _, SqL.of e8⟩, .int _, rfl, .str _, rfl, sz (by simp), fun p np => ?_⟩
    have s9 := s8.trans (same_new (o := .tup [.int ((pos ((u1.map (·.2)).take i) : Nat) : Int), .str ⟨u.2.toArray⟩]) np)
    have w2' : W2 (upd H' p (.tup [.int ((pos ((u1.map (·.2)).take i) : Nat) : Int), .str ⟨u.2.toArray⟩])) (.ref p) (0 + pos ((u1.map (·.2)).take i), u.2) := ⟨p, rfl, by rw [upd_same, Nat.zero_add]⟩
    have e9 : (upd H' p (.tup [.int ((pos ((u1.map (·.2)).take i) : Nat) : Int), .str ⟨u.2.toArray⟩])) L = some (.lst ys) := same_new np _ _ e8
    have r9 := r8.kt stable_w2 (Kt.of (same_new (o := .tup [.int ((pos ((u1.map (·.2)).take i) : Nat) : Int), .str ⟨u.2.toArray⟩]) np))
    generalize upd H' p (.tup [.int ((pos ((u1.map (·.2)).take i) : Nat) : Int), .str ⟨u.2.toArray⟩]) = H9 at s9 w2' e9 r9 ⊢
    refine ⟨L, ys, .ref p, rfl, rfl, e9, lt_line (by omega), .int _, rfl, .str _, rfl, _, rfl, sz (by rw [zu]; exact ub), _, _, rfl, rfl, _, _, rfl, rfl, some (.int (u.1 : Int)), some (.str ⟨u.2.toArray⟩), ys ++ [.ref p], ?_, same_upd s9 fL, upd_same, ?_⟩
    · rw [et, pos_app, zu]
      rfl
    · rw [et, spots_app]
      exact (r9.snoc w2').kt stable_w2 (kt_upd e9)
  obtain ⟨x7, x8, ys, rfl, s8, e8, r8⟩ := h
  rw [List.take_of_length_le (by rw [List.length_map]; omega)] at r8 ⊢
  have w8 := w4.to s8
  have e38 := s8 _ _ e3'
  have r38 := r3'.kt stable_w2 (Kt.of s8)
  refine ⟨rfl, lc_wT (R := fun _ v (u : List Nat) => v = .str ⟨u.toArray⟩) (g := fun w => w.2) (xs := xs1) (ws := u1) (fun R k => ⟨.ref L1, rfl, k _ _ (Same.refl _) e38⟩) (stable_eq _) (by decide) r38 (by omega) (fun u H9 hu s9 Z k => ⟨_, rfl, k _ H9 (Same.refl _) rfl⟩) (fun D vs H9 s9 nD eD rD => ?_)⟩
  have evs := RelA.eq_map rD
  have zs1 := sz (show z1.length ≤ 100000 by omega)
  have cJ : cd (Txt.join " " (u1.map fun w => (⟨w.2.toArray⟩ : Str))) = joinB (u1.map (·.2)) := by
    rw [join_cd, List.map_map]
    rfl
  have wd : ∀ w ∈ u1.map (·.2), Word w := fun w hw => by
    obtain ⟨v, hv, rfl⟩ := List.mem_map.mp hw
    rw [← hu1] at hv
    exact toks_words (cd z1).length (cd z1) 0 (Nat.le_refl _) v hv
  have jl := joinB_len u1
  have jc := joinB_mem u1 fun w hw => (t1.1 w hw).2
  have js := join_size u1
  have tJ : toks 0 (cd (Txt.join " " (u1.map fun w => (⟨w.2.toArray⟩ : Str)))) = spots 0 (u1.map (·.2)) := by rw [cJ, toks_join _ _ wd]
  have bJ := bw_toks (z := cd (Txt.join " " (u1.map fun w => (⟨w.2.toArray⟩ : Str)))) (by rw [cJ]; omega) (by rw [cJ]; exact jc)
  have lJ := cd_len (Txt.join " " (u1.map fun w => (⟨w.2.toArray⟩ : Str)))
  rw [cJ] at lJ
  rw [tJ] at bJ
  have w9 := w8.to s9
  refine ⟨_, D, u1.map fun w => (⟨w.2.toArray⟩ : Str), rfl, rfl, .inl (SqL.of (by rw [eD, evs, List.map_map, List.map_map]; rfl)), by rw [List.length_map]; show _ + _ * 1 ≤ _; omega, _, rfl, by omega, fun p10 xs10 H10 s10 e10 r10 => ?_⟩
  rw [tJ] at r10
  have s10' := s9.trans s10
  refine show_words (w8.to s10') e10 r10 bJ ⟨.ref L, rfl, L, ys, rfl, .inl ⟨SqL.of (s10' _ _ e8), fun t11 n11 => show_words ((w8.to s10').to (same_new n11)) upd_same (r8.kt stable_w2 (Kt.of (s10'.trans (same_new n11)))) bJ ⟨rfl, _, rfl, ?_⟩⟩⟩
  rw [ne_same]
  have s11 := (s8.trans s10').trans (same_new (o := .tup ys) n11)
  generalize upd H10 t11 (.tup ys) = H11 at s11 ⊢
  have w11 := w4.to s11
  clear s10 s10' e10 r10 s9 nD eD rD evs w9 w8 e38 r38 s8 e8 r8 s7 w7 eL s6 w6
  have cZ : cd (z1 ++ "
" ++ z2) = cd z1 ++ 10 :: cd z2 := by
    rw [str_app, str_app, List.append_assoc]
    rfl
  have tZ : toks 0 (cd (z1 ++ "
" ++ z2)) = u1 ++ mov (z1.length + 1) u2 := by
    rw [cZ, toks_two _ _ _ _ (Nat.le_refl _), hu1]
    have := toks_mov (z1.length + 1) (cd z2).length (cd z2) 0 (Nat.le_refl _)
    rw [hu2] at this
    rw [← this, c1]
    congr 2
  have lZ := cd_len (z1 ++ "
" ++ z2)
  have lZ2 : (cd (z1 ++ "
" ++ z2)).length = z1.length + 1 + z2.length := by rw [cZ, List.length_append, List.length_cons]; omega
  have bZ := bw_toks (z := cd (z1 ++ "
" ++ z2)) (by omega) (by
    rw [cZ]
    intro c hc
    rcases List.mem_append.mp hc with hc | hc
    · exact m1.2 c hc
    · rcases List.mem_cons.mp hc with rfl | hc
      · decide
      · exact m2.2 c hc)
  rw [tZ] at bZ
  have l1n : (z1 ++ "
" : Str).length = z1.length + 1 := by
    have h := cd_len (z1 ++ "
")
    rw [str_app, List.length_append] at h
    have h2 : (cd "
").length = 1 := rfl
    omega
  refine iteF ⟨.str z1, rfl, z1, rfl, zs1, _, _, rfl, rfl, .str z1, rfl, _, _, rfl, rfl, sz (by show z1.length + 1 ≤ _; omega), .str z2, rfl, _, _, rfl, rfl, sz (by rw [l1n]; omega), _, rfl, by omega, fun p12 xs12 H12 s12 e12 r12 => ?_⟩
  rw [tZ] at r12
  have s12' := s11.trans s12
  have w12 := w4.to s12'
  refine show_words w12 e12 r12 bZ ⟨.ref L1, rfl, lc_wT (R := W2) (g := fun w => (w.1 + (z1.length + 1), w.2)) (xs := xs2) (ws := u2) (fun R k => ⟨.ref L2, rfl, k _ _ (Same.refl _) (s12' _ _ e4)⟩) stable_w2 (by decide) (r4.kt stable_w2 (Kt.of s12')) (by omega) (fun u H13 hu s13 Z k => ?_) (fun D ys2 H13 s13 nD eD rD => ?_)⟩
  · refine ⟨.int (u.1 : Int), rfl, .int ((z1.length : Int) + 1), rfl, _, _, rfl, rfl, .str _, rfl, sz (by simp), fun t nt => k _ _ (same_new nt) ⟨t, rfl, ?_⟩⟩
    rw [upd_same]
    rfl
  have s13' := s12'.trans s13
  refine ⟨L1, D, xs1, ys2, rfl, rfl, s13' _ _ e3', eD, sz (by have := rD.1; rw [List.length_map] at this; omega), fun p14 n14 => ?_⟩
  have s14 := s13'.trans (same_new (o := .lst (xs1 ++ ys2)) n14)
  have r14 : RelA W2 (upd H13 p14 (.lst (xs1 ++ ys2))) (xs1 ++ ys2) (u1 ++ mov (z1.length + 1) u2) := relA_app (r3'.kt stable_w2 (Kt.of s14)) (rD.kt stable_w2 (Kt.of (same_new n14)))
  refine ⟨p14, xs1 ++ ys2, rfl, .inl ⟨SqL.of upd_same, fun t15 n15 => show_words ((w4.to s14).to (same_new n15)) upd_same (r14.kt stable_w2 (Kt.of (same_new n15))) bZ ⟨rfl, _, rfl, ?_⟩⟩⟩
  rw [ne_same]
  have s15 := s14.trans (same_new (o := .tup (xs1 ++ ys2)) n15)
  generalize upd (upd H13 p14 (.lst (xs1 ++ ys2))) t15 (.tup (xs1 ++ ys2)) = H15 at s15 ⊢
  have w15 := w4.to s15
  clear r14 s14 s13' s13 nD eD rD s12 s12' e12 r12 w12 s11 w11
  refine iteF ⟨.ref a, rfl, a, w15.some, fun vs16 H16 s16 d16 => ⟨sz (by rw [d16.len]; decide), fun p16 n16 => ⟨a, p16, vs16, rfl, (w15.to s16).to (same_new n16), (w15.to s16).ne n16, upd_same, (by intro z; rw [z] at d16; have := d16.len; cases this), (by rw [d16.len]; decide), fun io odd H17 eo k17 w17 => ?_⟩⟩⟩
  obtain ⟨od2, eod, dod⟩ := d16.get eo
  have dod17 : Da a H17 odd od2 := (dod.same (same_new n16)).kp k17
  have ood : ∀ z, od2 = .str z → z.length ≤ 50000 := fun z e => by
    have h := List.all_eq_true.mp odd_ok od2 (List.mem_of_getElem? eod)
    rw [e] at h
    exact of_decide_eq_true h
  have k4_17 : Kp a H4 H17 := ((Kp.of s15).trans ((Kp.of s16).trans (kp_new n16))).trans k17
  have L1a : L1 ≠ a := w2.ne n3
  have e17 := k4_17 _ _ L1a e3'
  have r17 := r3'.kt stable_w2 (kt_wl w4 k4_17)
  have T17 : LamX.Tabs [(P0, q0)] H17 := tabs_kp hw0 (k4.trans k4_17) hT0
  obtain ⟨v9, r9, m9, l9⟩ := relA_cut r17 none (some 9)
  have x9 : ∀ x ∈ v9, x.2.length ≤ 50000 := fun x hx => by
    have h1 := sumL_mem u1 x (m9 x hx)
    omega
  refine it_cat (lc_wT (R := fun _ v (u : List Nat) => v = .str ⟨u.toArray⟩) (g := fun w => w.2) (xs := cutV xs1 none (some 9)) (ws := v9) (fun R k => ⟨.ref L1, rfl, 9, rfl, L1, _, rfl, SqL.of e17, fun c nc => k c _ (same_new nc) upd_same⟩) (stable_eq _) (by decide) r9 (by omega) (fun u H18 hu s18 Z k => ⟨_, rfl, k _ H18 (Same.refl _) rfl⟩) (fun D ys18 H18 s18 nD eD rD => ?_))
  have ev18 := RelA.eq_map rD
  have w18 := w17.to s18
  refine ⟨odd, rfl, .ref a, rfl, a, rfl, w18, fun nz H19 k19 w19 mz => ⟨.str z1, rfl, 3, rfl, z1, rfl, zs1, sz (by simp), fun l20 n20 => ?_⟩⟩
  have Da' : D ≠ a := w17.ne nD
  have ly18 : ys18.length ≤ 2000 := by have := rD.1; rw [List.length_map] at this; omega
  refine ⟨D, l20, ys18, _, rfl, rfl, same_new n20 _ _ (k19 _ _ Da' eD), upd_same, sz (by simp; omega), fun p21 n21 => ?_⟩
  have k21 : Kp a H17 (upd (upd H19 l20 (.lst [odd, .str nz, .str (cutS z1 none (some 3))])) p21 (.lst (ys18 ++ [odd, .str nz, .str (cutS z1 none (some 3))]))) := (((Kp.of s18).trans k19).trans (kp_new n20)).trans (kp_new n21)
  have w21 : Wl a (upd (upd H19 l20 (.lst [odd, .str nz, .str (cutS z1 none (some 3))])) p21 (.lst (ys18 ++ [odd, .str nz, .str (cutS z1 none (some 3))]))) := (w19.to (same_new n20)).to (same_new n21)
  have e21 : (upd (upd H19 l20 (.lst [odd, .str nz, .str (cutS z1 none (some 3))])) p21 (.lst (ys18 ++ [odd, .str nz, .str (cutS z1 none (some 3))]))) p21 = some (.lst (ys18 ++ [odd, .str nz, .str (cutS z1 none (some 3))])) := upd_same
  generalize (upd (upd H19 l20 (.lst [odd, .str nz, .str (cutS z1 none (some 3))])) p21 (.lst (ys18 ++ [odd, .str nz, .str (cutS z1 none (some 3))]))) = H21 at k21 w21 e21 ⊢
  have items : ∀ x ∈ ys18 ++ [odd, .str nz, .str (cutS z1 none (some 3))], ∃ d, Da a H21 x d ∧ ∀ z, d = .str z → z.length ≤ 50000 := by
    intro x hx
    rcases List.mem_append.mp hx with hx | hx
    · rw [ev18] at hx
      obtain ⟨u, hu, rfl⟩ := List.mem_map.mp hx
      obtain ⟨y, hy, rfl⟩ := List.mem_map.mp hu
      exact ⟨_, .str _, fun z e => by cases e; have := x9 y hy; show (⟨y.2.toArray⟩ : Str).length ≤ _; rw [show (⟨y.2.toArray⟩ : Str).length = y.2.length from List.size_toArray]; exact this⟩
    · rcases List.mem_cons.mp hx with rfl | hx
      · exact ⟨od2, dod17.kp k21, ood⟩
      rcases List.mem_cons.mp hx with rfl | hx
      · exact ⟨_, .str _, fun z e => by cases e; have := mz.1; omega⟩
      · rw [List.mem_singleton.mp hx]
        exact ⟨_, .str _, fun z e => by
          cases e
          have h := cutS_len z1 none (some 3)
          omega⟩
  refine ⟨p21, rfl, ⟨_, SqL.of e21⟩, for_lst (xs := ys18 ++ [odd, .str nz, .str (cutS z1 none (some 3))]) (fun i σ H' => ∃ (x11 : Option V), σ = [some (.ref a), some (.str z1), some (.str z2), some (.ref L1), some (.ref L2), some (.ref L), some (.int (pos (u1.map (·.2)) : Nat)), x7, x8, some (.int ((z1.length : Int) + 1)), some odd, x11] ∧ Same H21 H') ⟨none, rfl, Same.refl _⟩ (fun i σ' H' _ h => ?_) (fun i x σ' H' hx h => ?_) (fun σ' H' h => ?_)⟩
  · obtain ⟨x11, rfl, s22⟩ := h
    exact SqL.of (s22 _ _ e21)
  · obtain ⟨x11, rfl, s22⟩ := h
    obtain ⟨d, dx, ox⟩ := items x (List.mem_of_getElem? hx)
    refine ⟨x, rfl, a, x, d, rfl, dx.same s22, ox, fun H23 s23 => ⟨nmB d, rfl, x, rfl, a, x, d, rfl, (dx.same s22).same s23, ox, fun H24 s24 => ⟨nmB d, rfl, rfl, _, rfl, ?_⟩⟩⟩
    rw [ne_same]
    exact iteF ⟨some x, rfl, (s22.trans s23).trans s24⟩
  obtain ⟨x11, rfl, s22⟩ := h
  have dodE : Da a H' odd od2 := (dod17.kp k21).same s22
  have kE : Kp a H H' := ((k4.trans k4_17).trans k21).trans (Kp.of s22)
  have TE' : LamX.Tabs [(P0, q0)] H' := tabs_kp hw0 kE hT0
  refine ⟨odd, rfl, isi dodE (isi_str od2) ⟨isStrD od2, rfl, ?_⟩⟩
  cases hs : isStrD od2 with
  | true => exact iteT (q H' (KeN.of kE) TE')
  | false =>
    refine iteF ?_
    dsimp only [LamX.tLam, TTs, tCallS]
    refine ⟨TE', fun H25 e25 T25 => ?_⟩
    have kn25 : KeN a H' H25 := fun b o _ e n => e25 b o e n
    refine ⟨odd, rfl, a, odd, od2, rfl, da_keN kn25 dodE, hs, fun dd ndd => ⟨rfl, dd, rfl, upd_same, fun p np => ?_⟩⟩
    have s26 : Same H25 (upd (upd H25 dd (.xd [(("spot" : Str), .non)])) p (.lst [.non])) := (same_new ndd).trans (same_new np)
    refine ⟨p, .list [.none], rfl, .lst (SqL.of upd_same) ((DaAll.cons (a := a) .non .nil).dp (canAll fun d hd => by rw [List.mem_singleton.mp hd]; simp [PyData.canLay0])), by decide +kernel, by decide +kernel, sz (by decide +kernel), rfl, ?_⟩
    rw [show decide (V.str (PyData.list [.none]).shown = V.str "[None]") = true from by decide +kernel]
    exact q _ (fun b o n e nt => s26 b o (e25 b o (kE b o n e) nt)) (T25.ext fun b o e => s26 b o e)
end
end K53

set_option Elab.async false
set_option linter.all false
set_option maxRecDepth 100000
set_option maxHeartbeats 8000000
local macro_rules | `(tactic| walk_at "rd") => `(tactic| dsimp only [Evl.tCut, L2.tSeq, L2.tNext, L2.tRet, L2.tRetN, L2.tAsg, L2.gName, L2.tIfS, L2.tDrop, L2.tCons, L2.tNil, L2.tC, L2.tVar, L2.tCB, L2.tAndV, L2.tOrV, L2.tNotV, L2.tB, L2.tTest, L2.tOp, L2.tUn, L2.tNot, L2.tAnd, L2.tOr, L2.tIf, L2.tCall, L2.tTup, L2.tLst, L2.tNotT, L2.tYes, L2.gTup, L2.gCons, L2.gNil, L2.gSub, L2.tBM0, L2.tBM, L2.tWhile, L2.tFor, L2.iRng1, L2.iRng2, L2.tAugS, Tw.iEnumT, L2.tCKw, L2.tAug, L2.ipI, RT.iRevA, L2.tPar, L2.tPar3, L2.tSl, L2.tNoPart, L2.tPart, Tw.tRevT])
namespace K53
open PySem PySem.Spec PyProof.Rows L2 Tw
/-! the end of a law whose def wants quiet and makes a lambda: c0 the code, P0 its table -/
theorem law_quiet_tab {P : Program} {w : World} {K : PySem.W.Frag} {mg mb : Str → Option Value} {k : Nat} {fa a c0 P0 : Addr} {fd : FuncData}
    {x : Str} {sp : Sp} {s₁ : Shared} {vs : List Value} {ns : List Int} (KX : K.In s₁.heap) (hns : s₁.heap.Ns mainGlobals mg)
    (hb : s₁.heap.Ns builtinsNs mb) (hbb : ∀ x : Str, x ≠ "__name__" → mb x = bootBuiltins x) (hlim : s₁.heap.NoLimit)
    (hg : s₁.gens = #[]) (hT : s₁.heap.get? P0 = some { cls := .none, data := .fields #[] }) (nT : K.lookup P0 = none) (hC : PySem.W.CodeHd s₁.heap c0 P0)
    (hbm : ∃ (bm : Addr) (ob : Obj), mg "__builtins__" = some (.ref bm) ∧ bm ≠ builtinsNs ∧ s₁.heap.get? bm = some ob ∧ ob.cls = .type "module" ∧ ob.dict = some builtinsNs ∧ ob.data = .plain)
    (ha : s₁.heap.get? a = some { cls := .type "list", data := .seq vs.toArray }) (hi : IntsAre vs ns)
    (hl : ns.length ≤ sizeLine) (hr : Room k callerA)
    (F : ∀ base : Heap, K.In base → base.Ns mainGlobals mg → LamX.TabB base mg c0 P0 → FnG P w K mg base k fa fd [x] sp)
    (hbind : ∀ (s : Shared) (u : Value), BindsTo s fd ⟨[u], []⟩ [(x, u)])
    (hsp : ∀ H : Hp, H P0 = some (.tbl #[]) → SqL K H a (ns.map V.int) → sp [.ref a] H (fun v _ => v = .bl true) E0) :
    codeAny (model P w) callerA (.call (.ref fa) ⟨[.ref a], []⟩)
      (fun r s' => r = .ok (.ret (.bool true)) ∧ OldK s₁.heap s'.heap ∧ s'.os = s₁.os ∧ AllBare s'.gens) s₁ := by
  have hv := vals_ints hi
  have hn := hi.length
  have aP : a ≠ P0 := fun z => by rw [z, hT] at ha; cases ha
  have main : ∀ H : Hp, H P0 = some (.tbl #[]) → (∀ b, H b = none ∨ b = P0 ∨ ∃ o xs, H b = some (.frz o (.lst xs))) → SqL K H a (ns.map V.int) → HOk P w H s₁.heap → (∀ b u, H b = some u → b = P0 ∨ (b = a ∧ K.lookup a = none)) →
      codeAny (model P w) callerA (.call (.ref fa) ⟨[.ref a], []⟩)
        (fun r s' => r = .ok (.ret (.bool true)) ∧ OldK s₁.heap s'.heap ∧ s'.os = s₁.os ∧ AllBare s'.gens) s₁ := by
    intro H hP hO hS hok hA
    have free : ∀ {b : Addr} {o : Obj}, s₁.heap.get? b = some o → (∀ u n, o.data ≠ .seq u n) → (o.cls = .none → False) → H b = none := by
      intro b o e h1 h2
      cases q : H b with
      | none => rfl
      | some u =>
        rcases hA b u q with e1 | ⟨e1, _⟩
        · rw [e1, hT] at e
          injection e with e
          exact (h2 (by rw [← e])).elim
        · rw [e1, ha] at e
          injection e with e
          exact (h1 _ _ (by rw [← e])).elim
    have freeD : ∀ {b : Addr} {o : Obj} {es : Array DictEntry} {ep : Nat}, s₁.heap.get? b = some o → o.data = .dict es ep → H b = none := by
      intro b o es ep e d
      cases q : H b with
      | none => rfl
      | some u =>
        rcases hA b u q with e1 | ⟨e1, _⟩
        · rw [e1, hT] at e
          injection e with e
          rw [← e] at d
          exact absurd d (by intro z; cases z)
        · rw [e1, ha] at e
          injection e with e
          rw [← e] at d
          exact absurd d (by intro z; cases z)
    have nsB : ∀ {b : Addr} {m : Str → Option Value}, s₁.heap.Ns b m → (hidT s₁.heap H).Ns b m := by
      rintro b m ⟨o, es, ep, e, d, r⟩
      exact ⟨o, es, ep, hidT_get e (freeD e d), d, r⟩
    have kB : K.In (hidT s₁.heap H) := by
      intro b o e
      refine hidT_get (KX b o e) ?_
      cases q : H b with
      | none => rfl
      | some u =>
        rcases hA b u q with e1 | ⟨e1, e2⟩
        · rw [e1, nT] at e; cases e
        · rw [e1, e2] at e; cases e
    have hM : Mod K mg (hidT s₁.heap H) := by
      obtain ⟨mc, l1, l2⟩ := hlim
      exact ⟨kB, nsB hns, ⟨mb, nsB hb, hbb⟩, ⟨mc, nsB l1, l2⟩⟩
    have TB : LamX.TabB (hidT s₁.heap H) mg c0 P0 := by
      refine ⟨?_, ?_, fun z => ?_⟩
      · obtain ⟨o, us, file, tf, flags, tg, inF, text, tt, e1, r1, r2, rs⟩ := hC
        exact ⟨o, us, file, tf, flags, tg, inF, text, tt, hidT_get e1 (free e1 (fun u n z => by rw [r2] at z; cases z) (fun z => by rw [r1] at z; cases z)), r1, r2, rs⟩
      · obtain ⟨bm, ob, b1, b2, b3, b4, b5, b6⟩ := hbm
        refine ⟨bm, ob, b1, b2, fun q => ?_, fun q => ?_, hidT_get b3 (free b3 (fun u n z => by rw [b6] at z; cases z) (fun z => by rw [b4] at z; cases z)), b4, b5, b6⟩
        · obtain ⟨o, es, ep, e, hd, _⟩ := hns
          rw [q, e] at b3
          injection b3 with b3
          rw [b3, b6] at hd
          cases hd
        · rw [q, hT] at b3
          injection b3 with b3
          rw [← b3] at b4
          cases b4
      · obtain ⟨o, es, ep, e, hd, _⟩ := hns
        rw [z, hT] at e
        injection e with e
        rw [← e] at hd
        cases hd
    have noB : ∀ b : Addr, b ∈ frs ([] : List Env) → False := fun b z => by simp [frs] at z
    have e0 : Env0 P w K mg (hidT s₁.heap H) callerA [] s₁ H :=
      ⟨rfl, hM, fun b o e => of_hidT e, Nat.le_of_eq (hidT_size _ _), trivial, fun b z => (noB b z).elim, hok, .of_eq hg⟩
    have go := (F _ kB (nsB hns) TB).goes callerA [] s₁ H ⟨[.ref a], []⟩ [.ref a] [.ref a] (fun v _ => v = .bl true) E0 rfl hr e0
      (hbind s₁ (.ref a)) (.cons rfl .nil) (hsp H hP hS)
    refine codeAny_mono go fun r s' h => ?_
    cases r with
    | error e => exact False.elim h
    | ok fl =>
      cases fl with
      | next => exact False.elim h
      | brk => exact False.elim h
      | cont => exact False.elim h
      | ret u =>
        obtain ⟨v, H', os, bare, un, hok', rv, q⟩ := h
        subst q
        cases (show u = Value.bool true from rv)
        have others : ∀ b o, b ≠ P0 → s₁.heap.get? b = some o → s'.heap.get? b = some o := fun b o nb e => by
          cases q : H b with
          | none => exact un.keep b o e q (fun z => noB b z) (by simp)
          | some u =>
            rcases hO b with z | z | ⟨ob, xs, z⟩
            · rw [q] at z; cases z
            · exact absurd z nb
            · have f1 := (hok b _ z).1
              have f2 := (hok' b _ (un.frzs b ob _ z)).1
              rw [e] at f1
              rw [f2, ← f1]
        obtain ⟨more, hm⟩ : ∃ more : Array Value, s'.heap.get? P0 = some { cls := .none, data := .fields more } := by
          obtain ⟨more, z⟩ := un.tbls P0 #[] hP
          exact ⟨_, hok' P0 _ z⟩
        refine ⟨rfl, ⟨fun b o e => ?_, fun b o e => ?_⟩, os, bare⟩
        · by_cases nb : b = P0
          · subst nb
            rw [hT] at e
            injection e with e
            subst e
            exact Or.inr (Or.inl ⟨(hC.tab hT).isCodeTable, rfl, #[], more, rfl, by rw [Array.empty_append]; exact hm⟩)
          · exact Or.inl (others b o nb e)
        · by_cases nb : b = P0
          · subst nb; exact ⟨_, hm⟩
          · exact ⟨o, others b o nb e⟩
  cases hk : K.lookup a with
  | some o =>
    have e := KX a o hk
    rw [ha] at e
    injection e with e
    subst e
    refine main (fun b => if b = P0 then some (.tbl #[]) else none) (if_pos rfl) (fun b => ?_) (Or.inr ⟨_, vs.toArray, _, hk, rfl, rfl, rfl, ?_, by simpa using hv⟩) (fun b u z => ?_) (fun b u z => ?_)
    · by_cases h : b = P0
      · exact Or.inr (Or.inl h)
      · exact Or.inl (if_neg h)
    · rw [List.size_toArray, hn]; exact hl
    · have z : (if b = P0 then some (HO.tbl #[]) else none) = some u := z
      by_cases h : b = P0
      · rw [if_pos h] at z
        injection z with z
        subst z h
        exact hT
      · rw [if_neg h] at z; cases z
    · have z : (if b = P0 then some (HO.tbl #[]) else none) = some u := z
      by_cases h : b = P0
      · exact Or.inl h
      · rw [if_neg h] at z; cases z
  | none =>
    let Ha : Hp := fun b => if b = a then some (.frz { cls := .type "list", data := .seq vs.toArray } (.lst (ns.map V.int))) else if b = P0 then some (.tbl #[]) else none
    have ya : ∀ b, b = a → Ha b = some (.frz { cls := .type "list", data := .seq vs.toArray } (.lst (ns.map V.int))) := fun b h => if_pos h
    have yP : Ha P0 = some (.tbl #[]) := (if_neg (fun z => aP z.symm)).trans (if_pos rfl)
    have na : ∀ b, b ≠ a → b ≠ P0 → Ha b = none := fun b h g => (if_neg h).trans (if_neg g)
    refine main Ha yP (fun b => ?_) (Or.inl (Or.inr ⟨_, ya a rfl⟩)) (fun b u z => ?_) (fun b u z => ?_)
    · by_cases h : b = a
      · exact Or.inr (Or.inr ⟨_, _, ya b h⟩)
      · by_cases g : b = P0
        · exact Or.inr (Or.inl g)
        · exact Or.inl (na b h g)
    · by_cases h : b = a
      · rw [ya b h] at z
        injection z with z
        subst z h
        exact ⟨ha, by rw [List.length_map]; exact hl, vs, _, hv, ha⟩
      · by_cases g : b = P0
        · rw [g, yP] at z
          injection z with z
          subst z
          rw [g]
          exact hT
        · rw [na b h g] at z; cases z
    · by_cases h : b = a
      · exact Or.inr ⟨h, hk⟩
      · by_cases g : b = P0
        · exact Or.inl g
        · rw [na b h g] at z; cases z
theorem walk_quiet_tab {l : PySem.W.OpenLaw} {n k : Nat} {q : Program} {loose : List Str} {XP : (Str → Option Value) → Heap → Prop}
    {YP : World → Heap → Prop} {d dr : DefRec} {K : Params → PySem.W.Frag} {sp : Addr → PySem.W.Frag → Sp} {x y : Str} {cA pA : Params → Addr} (hn : l.most = some n)
    (hn2 : n ≤ sizeLine) (hdf : d.params.defaults = []) (hr : Room k callerA)
    (hY : ∀ (w : World) (h : Heap), YP w h → (K w.params).In h)
    (hrec : (recsOf q).find? (fun e => e.name == y) = some dr) (htab : ∀ w : World, PySem.W.tabIn (K w.params) y = some (cA w.params, pA w.params)) (nT : ∀ w : World, (K w.params).lookup (pA w.params) = none)
    (F : ∀ (w : World) (mg : Str → Option Value) (fa : Addr) (h : Heap), (K w.params).In h → h.Ns mainGlobals mg →
      mg d.name = some (.ref fa) → ∃ fd : FuncData, (∀ (s : Shared) (u : Value), BindsTo s fd ⟨[u], []⟩ [(x, u)]) ∧
        ∀ base : Heap, (K w.params).In base → base.Ns mainGlobals mg → LamX.TabB base mg (cA w.params) (pA w.params) → FnG l.prog w (K w.params) mg base k fa fd [x] (sp (pA w.params) (K w.params)))
    (hsp : ∀ (P0 : Addr) (K : PySem.W.Frag) (H : Hp) (a : Addr) (ns : List Int), ns.length ≤ n → H P0 = some (.tbl #[]) → SqL K H a (ns.map V.int) →
      sp P0 K [.ref a] H (fun v _ => v = .bl true) E0) :
    PySem.W.WalkO q loose XP YP l.row.toRowW d [] (fun f vs => PySem.call f vs) := by
  refine Att.attach_call hn hdf ?_
  intro w s₀ s₁ mg mb fa o pm cd doc a vs ns G Y ho hd hcd hmg hobj hints hlen hg
  have kx := hY w _ Y
  obtain ⟨fd, hb, hF⟩ := F w mg fa _ kx G.T.g hmg
  obtain ⟨hC, hT⟩ := PySem.W.tab_of G.T kx hrec (htab w)
  exact law_quiet_tab kx G.T.g G.T.b G.T.builtins G.T.nolimit hg hT (nT w) hC G.T.bmain hobj hints (Nat.le_trans hlen hn2) hr hF hb
    fun H hP hS => hsp _ _ H a ns hlen hP hS
def spLawT (P0 : Addr) (K : PySem.W.Frag) : Sp := fun vs H Q _ => ∃ (p : Addr) (ns : List Int), vs = [.ref p] ∧ SqL K H p (ns.map V.int) ∧ ns.length ≤ 63 ∧ LamX.Tabs [(P0, q0)] H ∧ ∀ H', Q (.bl true) H'
section
variable {P : Program} {w : World} {K : PySem.W.Frag} {mg : Str → Option Value} {base : Heap} {P0 : Addr}
theorem scLaw : FnScope ["_law_script", "_law_lap"] ["_law_script"] (defScope sLaw) := ⟨rfl, rfl, rfl, by decide +kernel, rfl, by decide +kernel, by decide +kernel⟩
theorem seqE {H H' : Hp} {p : Addr} {ns : List Int} (k : LamX.ExtN H H') (h : SqL K H p (ns.map V.int)) : SqL K H' p (ns.map V.int) := by
  rcases h with (h | ⟨o, h⟩) | h
  · exact Or.inl (Or.inl (k p _ h (fun _ z => by cases z)))
  · exact Or.inl (Or.inr ⟨o, k p _ h (fun _ z => by cases z)⟩)
  · exact Or.inr h
theorem tabs_lst {H H' : Hp} {D : Addr} {xs : List V} (e : H D = some (.lst xs)) (k : ∀ b o, b ≠ D → H b = some o → H' b = some o) (t : LamX.Tabs [(P0, q0)] H) : LamX.Tabs [(P0, q0)] H' := fun p hp => by
  obtain ⟨ps, h1, h2, h3⟩ := t p hp
  refine ⟨ps, k _ _ (fun z => by rw [z, e] at h1; cases h1) h1, h2, fun pos cv hc => ?_⟩
  obtain ⟨c, e1, e2⟩ := h3 pos cv hc
  exact ⟨c, e1, k _ _ (fun z => by rw [z, e] at e2; unfold LamX.CodeO at e2; cases e2) e2⟩
theorem ok_law (D : Def K mg "law" sLaw ["_law_script"]) (nb : Nb mg) (c1 : Cal P w K mg base "_law_well" 1 ["_law_script", "_law_lap"] (spWell K)) (c2 : CalG P w K mg base "_law_is_right" 11 ["_law_well_here"] (spRight P0)) :
    CalG P w K mg base "law" 12 ["_law_script"] (spLawT P0 K) := by
  refine D.okG scLaw (fun vs H Q E h => ?_) (fun f cdv A out s H vs Q E hq hr h => ?_)
  · obtain ⟨p, ns, rfl, _⟩ := h; rfl
  obtain ⟨p, ns, rfl, hp, hl, hT, q⟩ := h
  refine ⟨_, pss_one (ps_ret (pe_callB (id := "all") (r := rAll K) (cr_all rfl) (by rfl) nb.all (by decide +kernel) (pa_cons
    (pe_lc (own := [("_law_lap", 1)]) (g := gName 1) (tt := tYes) rfl scLaw.nd (pi_range1 (by rfl) nb.rng (pa_cons pe_int pa_nil))
      (blkOk_by (N := ["_law_script", "_law_lap"]) (sc := defScope sLaw) (by decide +kernel)) (fun _ _ _ _ _ => pg_name (i := 1) scLaw.nd rfl (Or.inl rfl)) (fun _ _ _ _ _ => pts_nil)
      (fun _ _ _ _ _ => pe_calG c2 hq hr (by decide) (by rfl) (pa_cons (pe_cal c1 hr (by decide) (by rfl) (pa_cons (pv 0) (pa_cons (pv 1) pa_nil))) pa_nil))) pa_nil))), ?_⟩
  walk_at "rd"
  refine ⟨2, rfl, by decide, by decide, fun D hD => ?_⟩
  refine lc_range (lo := 0) (n := 2) (fun m H' => LamX.ExtN H H' ∧ LamX.Tabs [(P0, q0)] H' ∧ H' D = some (.lst ((List.replicate m true).map V.bl))) ⟨LamX.ExtN.of (same_new hD), hT.ext (same_new hD), upd_same⟩ (fun m H1 hm h => ?_) (fun H' h => ?_)
  · obtain ⟨h1, h2, h3⟩ := h
    refine ⟨wipeJ _ _ _, ?_⟩
    unfold tYes
    simp only [if_true]
    refine ⟨.ref p, rfl, .int (0 + (m : Int)), rfl, p, ns, _, rfl, seqE h1 hp, hl, by omega, fun a H2 s2 na w2 => ⟨a, rfl, w2, h2.ext s2, fun H3 k3 t3 => ?_⟩⟩
    have Da : D ≠ a := fun z => by rw [z, na] at h3; cases h3
    have e3 : H3 D = some (.lst ((List.replicate m true).map V.bl)) := k3 D _ Da (s2 _ _ h3) (fun _ z => by cases z)
    refine ⟨_, e3, lt_line (by rw [List.length_map, List.length_replicate]; omega), fun b o e n => ?_, tabs_lst e3 (fun b o n e => by rw [upd_ne n]; exact e) t3, ?_⟩
    · have e1 := h1 b o e n
      rw [upd_ne (ne_of_none e hD)]
      exact k3 b o (fun z => by rw [z, na] at e1; cases e1) (s2 _ _ e1) n
    · rw [upd_same, List.replicate_succ', List.map_append]
      rfl
  · obtain ⟨h1, h2, h3⟩ := h
    exact ⟨D, [true, true], rfl, SqL.of h3, q H'⟩
end
end K53

set_option Elab.async false
set_option linter.all false
set_option maxRecDepth 100000
namespace K53
open PySem PySem.Spec PyProof.Rows L2 Tw
theorem with_str {R : Prop} {K : PySem.W.Frag} {mg : Str → Option Value} {x z : Str} {t : Tok} {h : Heap} (X : K.In h) (G : h.Ns mainGlobals mg) (a : PySem.W.nsIn K mainGlobals x = some (some (.str z t))) (go : (∃ t, mg x = some (.str z t)) → R) : R := go ⟨t, PySem.W.mg_of X G a⟩
theorem with_int {R : Prop} {K : PySem.W.Frag} {mg : Str → Option Value} {x : Str} {i : Int} {t : Tok} {h : Heap} (X : K.In h) (G : h.Ns mainGlobals mg) (a : PySem.W.nsIn K mainGlobals x = some (some (.int i t))) (go : (∃ t, mg x = some (.int i t)) → R) : R := go ⟨t, PySem.W.mg_of X G a⟩
theorem with_tup3 {R : Prop} {K : PySem.W.Frag} {mg : Str → Option Value} {x z1 z2 z3 : Str} {t1 t2 t3 : Tok} {p : Addr} {od : Option Addr} {sl : Array (Option Value)} {n : Nat} {h : Heap} (X : K.In h) (G : h.Ns mainGlobals mg) (a : PySem.W.nsIn K mainGlobals x = some (some (.ref p)))
    (l : K.lookup p = some ⟨.type "tuple", od, .seq #[.str z1 t1, .str z2 t2, .str z3 t3] n, sl⟩) (go : (∃ p, mg x = some (.ref p) ∧ ∀ H : Hp, SqT K H p [.str z1, .str z2, .str z3]) → R) : R :=
  go ⟨p, PySem.W.mg_of X G a, fun H => Or.inr ⟨_, _, n, l, rfl, rfl, sz (by show 3 ≤ 100000; decide), .cons ⟨_, rfl⟩ (.cons ⟨_, rfl⟩ (.cons ⟨_, rfl⟩ .nil))⟩⟩
theorem with_tup8 {R : Prop} {K : PySem.W.Frag} {mg : Str → Option Value} {x z1 z2 z3 z4 z5 z6 z7 z8 : Str} {t1 t2 t3 t4 t5 t6 t7 t8 : Tok} {p : Addr} {od : Option Addr} {sl : Array (Option Value)} {n : Nat} {h : Heap} (X : K.In h) (G : h.Ns mainGlobals mg) (a : PySem.W.nsIn K mainGlobals x = some (some (.ref p)))
    (l : K.lookup p = some ⟨.type "tuple", od, .seq #[.str z1 t1, .str z2 t2, .str z3 t3, .str z4 t4, .str z5 t5, .str z6 t6, .str z7 t7, .str z8 t8] n, sl⟩) (go : (∃ p, mg x = some (.ref p) ∧ ∀ H : Hp, SqT K H p [.str z1, .str z2, .str z3, .str z4, .str z5, .str z6, .str z7, .str z8]) → R) : R :=
  go ⟨p, PySem.W.mg_of X G a, fun H => Or.inr ⟨_, _, n, l, rfl, rfl, sz (by show 8 ≤ 100000; decide), .cons ⟨_, rfl⟩ (.cons ⟨_, rfl⟩ (.cons ⟨_, rfl⟩ (.cons ⟨_, rfl⟩ (.cons ⟨_, rfl⟩ (.cons ⟨_, rfl⟩ (.cons ⟨_, rfl⟩ (.cons ⟨_, rfl⟩ .nil)))))))⟩⟩
theorem exm_own {K : PySem.W.Frag} {S : Addr} (h1 : PySem.W.subIn K (.ref S) (.type "BaseException") = some true) (h2 : PySem.W.isClsIn K S = true) (h3 : PySem.W.typeIn K (.ref S) = some (.type "type")) (h4 : PySem.W.subIn K (.ref S) (.ref S) = some true) :
    PySem.W.exmOne K (.ref S) (.ref S) = some true := by
  have h2' : (PySem.W.clsIn K S).isSome = true := h2
  unfold PySem.W.exmOne
  rw [h1]
  simp only [beq_self_eq_true, if_true]
  unfold PySem.W.kitCls
  simp [h2', h3, h4]
/-- the error's class -/
theorem with_low {R : Prop} {K : PySem.W.Frag} {h : Heap} {mg : Str → Option Value} {C f1 : Addr} (X : K.In h) (G : h.Ns mainGlobals mg)
    {nm q : Str} {N : Addr} {bs bm : List Value} {sn : List Str} {sub : List Value} {ab : Bool} {col : Option Bool} {dd : Option Addr} {m0 m1 m2 m3 m5 : Option Value}
    {od1 an1 : Option Addr} {sl1 : Array (Option Value)} {oc1 dc1 pm1 cd1 ct1 : Value} {p1 p2 q1 q2 q3 q4 : Pos}
    (aC : PySem.W.nsIn K mainGlobals "BadText" = some (some (.ref C)))
    (xL : K.lookup C = some (excClassObj nm q C N bs bm true sn sub ab col dd m0 m1 m2 m3 m5 "ValueError.__new__"))
    (sa : PySem.W.findIn K (.ref C) "__setattr__" = some (some (.builtin "object.__setattr__"))) (ga : PySem.W.findIn K (.ref C) "__getattribute__" = some (some (.builtin "BaseException.__getattribute__"))) (gg : PySem.W.findIn K (.ref C) "__getattr__" = some none) (nb : PySem.W.findIn K (.ref C) "spot" = some none)
    (a1 : PySem.W.findIn K (.ref C) "__init__" = some (some (.ref f1))) (t1 : PySem.W.typeIn K (.ref f1) = some (.type "function"))
    (l1 : K.lookup f1 = some ⟨oc1, od1, .func (PySem.W.fnOf "__init__" "BadText.__init__" (PySem.LowX.iA p1 p2) (PySem.LowX.iB q1 q2 q3 q4) PySem.LowX.iS .none .none dc1 pm1 an1 cd1 ct1), sl1⟩) (c1 : PySem.W.codeIn K cd1 "BadText.__init__" = true)
    (kC : PySem.W.keepIn K (.ref C) = true) (eC : PySem.W.subIn K (.ref C) (.type "BaseException") = some true) (tC : PySem.W.typeIn K (.ref C) = some (.type "type")) (hC : PySem.W.hasDictIn K C = true) (iC : PySem.W.isClsIn K C = true) (sC : PySem.W.subIn K (.ref C) (.ref C) = some true)
    (hb : PySem.HandSPX.refsVE bm = true) (go : PySem.LowX.LowTxt K mg C f1 → R) : R :=
  go { gC := PySem.W.mg_of X G aC, cls := ⟨nm, q, N, bs, _, sn, sub, ab, col, dd, m0, m1, m2, m3, m5, xL, hb⟩, sa := sa, ga := ga, gg := gg, noN := nb, iC := a1, tC := t1, kC := kC, exC := eC, tyC := tC, hdC := hC, te := exm_own eC iC tC sC, fn := ⟨_, _, _, _, _, _, _, _, _, _, _, _, _, _, l1, c1⟩ }
theorem tab_mk {K : PySem.W.Frag} {x : Str} {f c P0 : Addr} {oc oc2 : Value} {od od2 : Option Addr} {fd : FuncData} {sl sl2 : Array (Option Value)} {vs : Array Value} (a : PySem.W.nsIn K mainGlobals x = some (some (.ref f))) (l : K.lookup f = some ⟨oc, od, .func fd, sl⟩)
    (e : fd.code = .ref c) (l2 : K.lookup c = some ⟨oc2, od2, .fields vs, sl2⟩) (v : (vs[11]? : Option Value) = some (.ref P0)) : PySem.W.tabIn K x = some (c, P0) := by
  unfold PySem.W.tabIn
  rw [a]
  dsimp only
  rw [l]
  dsimp only
  rw [e]
  dsimp only
  rw [l2]
  dsimp only
  rw [v]
theorem F_mk {l : PySem.W.OpenLaw} {k : Nat} {w : World} {K : PySem.W.Frag} {sp : Addr → PySem.W.Frag → Sp} {x y z : Str} {c0 P0 : Addr} (ht : PySem.W.tabIn K y = some (c0, P0)) (nT : K.lookup P0 = none)
    (F : ∀ (mg : Str → Option Value) (fa : Addr) (h : Heap), K.In h → h.Ns mainGlobals mg →
      mg z = some (.ref fa) → (∀ f cdv, mg y = some (.ref f) → CdAt K f cdv → cdv = .ref c0) → ∃ fd : FuncData, (∀ (s : Shared) (u : Value), BindsTo s fd ⟨[u], []⟩ [(x, u)]) ∧
        ∀ base : Heap, K.In base → base.Ns mainGlobals mg → LamX.TabB base mg c0 P0 → FnG l.prog w K mg base k fa fd [x] (sp P0 K)) :
    ∃ c0 P0, PySem.W.tabIn K y = some (c0, P0) ∧ K.lookup P0 = none ∧ ∀ (mg : Str → Option Value) (fa : Addr) (h : Heap), K.In h → h.Ns mainGlobals mg →
      mg z = some (.ref fa) → ∃ fd : FuncData, (∀ (s : Shared) (u : Value), BindsTo s fd ⟨[u], []⟩ [(x, u)]) ∧
        ∀ base : Heap, K.In base → base.Ns mainGlobals mg → LamX.TabB base mg c0 P0 → FnG l.prog w K mg base k fa fd [x] (sp P0 K) :=
  ⟨c0, P0, ht, nT, fun mg fa h X G hm => F mg fa h X G hm fun f cdv m ⟨oc, od, x', q, ar, bo, sc, kV, doc, pm, an, ct, osl, lk⟩ => PySem.W.law_code X G ht m (X _ _ lk) rfl⟩
theorem walk_tab {l : PySem.W.OpenLaw} {n k : Nat} {q : Program} {loose : List Str} {XP : (Str → Option Value) → Heap → Prop}
    {YP : World → Heap → Prop} {d dr : DefRec} {K : Params → PySem.W.Frag} {sp : Addr → PySem.W.Frag → Sp} {x y : Str} (hn : l.most = some n)
    (hn2 : n ≤ sizeLine) (hdf : d.params.defaults = []) (hr : Room k callerA)
    (hY : ∀ (w : World) (h : Heap), YP w h → (K w.params).In h)
    (hrec : (recsOf q).find? (fun e => e.name == y) = some dr)
    (F : ∀ (w : World), ∃ c0 P0, PySem.W.tabIn (K w.params) y = some (c0, P0) ∧ (K w.params).lookup P0 = none ∧ ∀ (mg : Str → Option Value) (fa : Addr) (h : Heap), (K w.params).In h → h.Ns mainGlobals mg →
      mg d.name = some (.ref fa) → ∃ fd : FuncData, (∀ (s : Shared) (u : Value), BindsTo s fd ⟨[u], []⟩ [(x, u)]) ∧
        ∀ base : Heap, (K w.params).In base → base.Ns mainGlobals mg → LamX.TabB base mg c0 P0 → FnG l.prog w (K w.params) mg base k fa fd [x] (sp P0 (K w.params)))
    (hsp : ∀ (P0 : Addr) (K : PySem.W.Frag) (H : Hp) (a : Addr) (ns : List Int), ns.length ≤ n → H P0 = some (.tbl #[]) → SqL K H a (ns.map V.int) →
      sp P0 K [.ref a] H (fun v _ => v = .bl true) E0) :
    PySem.W.WalkO q loose XP YP l.row.toRowW d [] (fun f vs => PySem.call f vs) := by
  refine Att.attach_call hn hdf ?_
  intro w s₀ s₁ mg mb fa o pm cd doc a vs ns G Y ho hd hcd hmg hobj hints hlen hg
  have kx := hY w _ Y
  obtain ⟨c0, P0, ht, nT, F'⟩ := F w
  obtain ⟨fd, hb, hF⟩ := F' mg fa _ kx G.T.g hmg
  obtain ⟨hC, hT⟩ := PySem.W.tab_of G.T kx hrec ht
  exact law_quiet_tab kx G.T.g G.T.b G.T.builtins G.T.nolimit hg hT nT hC G.T.bmain hobj hints (Nat.le_trans hlen hn2) hr hF hb
    fun H hP hS => hsp _ _ H a ns hlen hP hS
theorem end_lawB {P : Program} {w : World} {K : PySem.W.Frag} {mg : Str → Option Value} {x y : Str} {st : Stmt} {k : Nat} {sp : Sp} {fa : Addr} {T : Heap → Prop} (D : Def K mg x st [y]) (hfa : mg x = some (.ref fa)) (F : ∀ base : Heap, T base → CalG P w K mg base x k [y] sp)
    (hb : ∀ (kV doc pm : Value) (an : Option Addr) (cdv ct u : Value), bindArgs (PySem.W.fnOf x x (defArgs st) (defBody st) (defScope st) .none kV doc pm an cdv ct) ⟨[u], []⟩ = pure [(y, u)]) :
    ∃ fd : FuncData, (∀ (s : Shared) (u : Value), BindsTo s fd ⟨[u], []⟩ [(y, u)]) ∧ ∀ base : Heap, K.In base → base.Ns mainGlobals mg → T base → FnG P w K mg base k fa fd [y] sp := by
  obtain ⟨f, fd, F', m, _⟩ := D
  have e1 : f = fa := by rw [hfa] at m; injection m with z; injection z with z; exact z.symm
  subst e1
  obtain ⟨oc, od, kV, doc, pm, an, cdv, ct, osl, e2, lk, _⟩ := F'.ex
  refine ⟨fd, fun s u => by rw [e2]; exact .of_eq (hb kV doc pm an cdv ct u), fun base _ _ tb => ?_⟩
  obtain ⟨f2, fd2, G, m2, _, _, oc2, od2, osl2, lk2⟩ := F base tb
  have e3 : f2 = f := by rw [hfa] at m2; injection m2 with z; injection z with z; exact z.symm
  subst e3
  rw [lk] at lk2
  injection lk2 with lk2
  injection lk2 with _ _ e4 _
  injection e4 with e4
  subst e4
  rw [e2] at *
  exact G
/-- all defs and names, put together -/
theorem whole {P : Program} {w : World} {K : PySem.W.Frag} {mg : Str → Option Value} {C fI c0 P0 : Addr} (nb : Nb mg) (cs : Cs K mg) (lt : PySem.LowX.LowTxt K mg C fI)
    (hcd : ∀ f cdv, mg "_law_is_right" = some (.ref f) → CdAt K f cdv → cdv = .ref c0)
    (d0 : Def K mg "end_of_run" sRun ["text", "at", "signs"])
    (d1 : Def K mg "end_of_remark" sRemark ["text", "at"])
    (d2 : Def K mg "end_of_word" sWord ["text", "at"])
    (d3 : Def K mg "words_of" sWords ["text"])
    (d4 : Def K mg "is_free_name" sFree ["value"])
    (d5 : Def K mg "_law_well" sWell ["_law_script", "_law_lap"])
    (d6 : Def K mg "_law_draw" sDraw ["_law_well_here", "_law_most"])
    (d7 : Def K mg "_law_pick" sPick ["_law_well_here", "_law_some"])
    (d8 : Def K mg "_law_kept" sKept [])
    (d9 : Def K mg "_law_name" sName ["_law_well_here"])
    (d10 : Def K mg "_law_piece" sPiece ["_law_well_here"])
    (d11 : Def K mg "_law_scan" sScan ["_law_text_here"])
    (d12 : Def K mg "_law_is_name" sIsName ["_law_thing"])
    (d13 : Def K mg "_law_spot_of" sSpotOf ["_law_call"])
    (d14 : Def K mg "_law_text" sText ["_law_well_here"])
    (d15 : Def K mg "_law_is_right" sRight ["_law_well_here"])
    (d16 : Def K mg "law" sLaw ["_law_script"])
    (base : Heap) (tb : LamX.TabB base mg c0 P0) : CalG P w K mg base "law" 12 ["_law_script"] (spLawT P0 K) := by
  have c_run := ok_run (P := P) (w := w) (base := base) d0 nb
  have c_rem := ok_remark (P := P) (w := w) (base := base) d1 nb
  have c_word := ok_word d2 cs c_run
  have c_words := ok_words d3 nb c_rem c_word
  have c_free := ok_free d4 nb cs c_run
  have c_well := ok_well (P := P) (w := w) (base := base) d5 nb
  have c_draw := ok_draw (P := P) (w := w) (base := base) d6 nb
  have c_pick := ok_pick d7 nb c_draw
  have c_kept := ok_kept (P := P) (w := w) (base := base) d8
  have c_name := ok_name d9 nb c_draw c_kept
  have c_piece := ok_piece d10 nb c_draw c_pick c_kept c_name
  have c_scan := ok_scan (P := P) (w := w) (base := base) d11 nb
  have c_isn := ok_isName d12 nb c_kept
  have c_text := ok_text d14 nb c_draw c_piece
  have c_right := ok_right d15 nb lt d3 d13 tb hcd c_text c_scan c_words c_pick c_name c_free c_isn
  exact ok_law d16 nb c_well c_right
end K53

set_option Elab.async false
set_option linter.all false
set_option maxRecDepth 100000
namespace K53
end K53
open PySem PySem.W PyProof.Rows
set_option maxHeartbeats 0 in
theorem PySem.Challenge.cw_twoletters_k53_whole_words_and_spots_holds : PySem.Challenge.rw_twoletters_k53_whole_words_and_spots.Holds := by
  w_on; o_law; k_head; (case hw => w_witness2)
  k_fill
  refine K53.walk_tab (l := PySem.Challenge.rw_twoletters_k53_whole_words_and_spots) (n := 63) (k := 12) (x := "_law_script") (y := "_law_is_right") (sp := K53.spLawT) rfl (by decide) rfl ⟨rfl, by decide, by decide⟩ (fun w h Y => PySem.W.km_in_of Y) (by rfl) ?F
    (fun P0 K H a ns hl hP hS => ⟨a, ns, rfl, hS, hl, fun p hp => by rw [List.mem_singleton.mp hp]; exact LamX.TabS.nil hP, fun _ => rfl⟩)
  case F =>
    intro w
    refine' K53.F_mk (K53.tab_mk ?a ?l ?e ?l2 ?v) ?n (fun mg fa h KX G hmg hcd => ?_)
    (case a => k_is); (case l => k_is); (case e => rfl); (case l2 => k_is); (case v => rfl); (case n => first | rfl | kernel_rfl | decide)
    refine' Tw.with_def (x := "end_of_run") (st := K53.sRun) (ps := ["text", "at", "signs"]) KX G ?a ?l ?c ?k (fun _ _ _ _ _ _ us hl => match us, hl with | [_, _, _], _ => rfl) (fun d0 => ?_)
    (case a => k_is); (case l => k_is); (case c => k_is); (case k => k_is)
    refine' Tw.with_def (x := "end_of_remark") (st := K53.sRemark) (ps := ["text", "at"]) KX G ?a ?l ?c ?k (fun _ _ _ _ _ _ us hl => match us, hl with | [_, _], _ => rfl) (fun d1 => ?_)
    (case a => k_is); (case l => k_is); (case c => k_is); (case k => k_is)
    refine' Tw.with_def (x := "end_of_word") (st := K53.sWord) (ps := ["text", "at"]) KX G ?a ?l ?c ?k (fun _ _ _ _ _ _ us hl => match us, hl with | [_, _], _ => rfl) (fun d2 => ?_)
    (case a => k_is); (case l => k_is); (case c => k_is); (case k => k_is)
    refine' Tw.with_def (x := "words_of") (st := K53.sWords) (ps := ["text"]) KX G ?a ?l ?c ?k (fun _ _ _ _ _ _ us hl => match us, hl with | [_], _ => rfl) (fun d3 => ?_)
    (case a => k_is); (case l => k_is); (case c => k_is); (case k => k_is)
    refine' Tw.with_def (x := "is_free_name") (st := K53.sFree) (ps := ["value"]) KX G ?a ?l ?c ?k (fun _ _ _ _ _ _ us hl => match us, hl with | [_], _ => rfl) (fun d4 => ?_)
    (case a => k_is); (case l => k_is); (case c => k_is); (case k => k_is)
    refine' Tw.with_def (x := "_law_well") (st := K53.sWell) (ps := ["_law_script", "_law_lap"]) KX G ?a ?l ?c ?k (fun _ _ _ _ _ _ us hl => match us, hl with | [_, _], _ => rfl) (fun d5 => ?_)
    (case a => k_is); (case l => k_is); (case c => k_is); (case k => k_is)
    refine' Tw.with_def (x := "_law_draw") (st := K53.sDraw) (ps := ["_law_well_here", "_law_most"]) KX G ?a ?l ?c ?k (fun _ _ _ _ _ _ us hl => match us, hl with | [_, _], _ => rfl) (fun d6 => ?_)
    (case a => k_is); (case l => k_is); (case c => k_is); (case k => k_is)
    refine' Tw.with_def (x := "_law_pick") (st := K53.sPick) (ps := ["_law_well_here", "_law_some"]) KX G ?a ?l ?c ?k (fun _ _ _ _ _ _ us hl => match us, hl with | [_, _], _ => rfl) (fun d7 => ?_)
    (case a => k_is); (case l => k_is); (case c => k_is); (case k => k_is)
    refine' Tw.with_def (x := "_law_kept") (st := K53.sKept) (ps := []) KX G ?a ?l ?c ?k (fun _ _ _ _ _ _ us hl => match us, hl with | [], _ => rfl) (fun d8 => ?_)
    (case a => k_is); (case l => k_is); (case c => k_is); (case k => k_is)
    refine' Tw.with_def (x := "_law_name") (st := K53.sName) (ps := ["_law_well_here"]) KX G ?a ?l ?c ?k (fun _ _ _ _ _ _ us hl => match us, hl with | [_], _ => rfl) (fun d9 => ?_)
    (case a => k_is); (case l => k_is); (case c => k_is); (case k => k_is)
    refine' Tw.with_def (x := "_law_piece") (st := K53.sPiece) (ps := ["_law_well_here"]) KX G ?a ?l ?c ?k (fun _ _ _ _ _ _ us hl => match us, hl with | [_], _ => rfl) (fun d10 => ?_)
    (case a => k_is); (case l => k_is); (case c => k_is); (case k => k_is)
    refine' Tw.with_def (x := "_law_scan") (st := K53.sScan) (ps := ["_law_text_here"]) KX G ?a ?l ?c ?k (fun _ _ _ _ _ _ us hl => match us, hl with | [_], _ => rfl) (fun d11 => ?_)
    (case a => k_is); (case l => k_is); (case c => k_is); (case k => k_is)
    refine' Tw.with_def (x := "_law_is_name") (st := K53.sIsName) (ps := ["_law_thing"]) KX G ?a ?l ?c ?k (fun _ _ _ _ _ _ us hl => match us, hl with | [_], _ => rfl) (fun d12 => ?_)
    (case a => k_is); (case l => k_is); (case c => k_is); (case k => k_is)
    refine' Tw.with_def (x := "_law_spot_of") (st := K53.sSpotOf) (ps := ["_law_call"]) KX G ?a ?l ?c ?k (fun _ _ _ _ _ _ us hl => match us, hl with | [_], _ => rfl) (fun d13 => ?_)
    (case a => k_is); (case l => k_is); (case c => k_is); (case k => k_is)
    refine' Tw.with_def (x := "_law_text") (st := K53.sText) (ps := ["_law_well_here"]) KX G ?a ?l ?c ?k (fun _ _ _ _ _ _ us hl => match us, hl with | [_], _ => rfl) (fun d14 => ?_)
    (case a => k_is); (case l => k_is); (case c => k_is); (case k => k_is)
    refine' Tw.with_def (x := "_law_is_right") (st := K53.sRight) (ps := ["_law_well_here"]) KX G ?a ?l ?c ?k (fun _ _ _ _ _ _ us hl => match us, hl with | [_], _ => rfl) (fun d15 => ?_)
    (case a => k_is); (case l => k_is); (case c => k_is); (case k => k_is)
    refine' Tw.with_def (x := "law") (st := K53.sLaw) (ps := ["_law_script"]) KX G ?a ?l ?c ?k (fun _ _ _ _ _ _ us hl => match us, hl with | [_], _ => rfl) (fun d16 => ?_)
    (case a => k_is); (case l => k_is); (case c => k_is); (case k => k_is)
    refine' Tw.with_no (x := "isinstance") KX G ?z (fun z0 => ?_)
    (case z => k_is)
    refine' Tw.with_no (x := "str") KX G ?z (fun z1 => ?_)
    (case z => k_is)
    refine' Tw.with_no (x := "int") KX G ?z (fun z2 => ?_)
    (case z => k_is)
    refine' Tw.with_no (x := "tuple") KX G ?z (fun z3 => ?_)
    (case z => k_is)
    refine' Tw.with_no (x := "all") KX G ?z (fun z4 => ?_)
    (case z => k_is)
    refine' Tw.with_no (x := "len") KX G ?z (fun z5 => ?_)
    (case z => k_is)
    refine' Tw.with_no (x := "list") KX G ?z (fun z6 => ?_)
    (case z => k_is)
    refine' Tw.with_no (x := "divmod") KX G ?z (fun z7 => ?_)
    (case z => k_is)
    refine' Tw.with_no (x := "range") KX G ?z (fun z8 => ?_)
    (case z => k_is)
    refine' Tw.with_no (x := "abs") KX G ?z (fun z9 => ?_)
    (case z => k_is)
    refine' Tw.with_no (x := "repr") KX G ?z (fun z10 => ?_)
    (case z => k_is)
    refine' K53.with_str (x := "DIGITS") (z := "0123456789") KX G ?z (fun s_DIGITS => ?_)
    (case z => k_is)
    refine' K53.with_str (x := "SMALL") (z := "abcdefghijklmnopqrstuvwxyz") KX G ?z (fun s_SMALL => ?_)
    (case z => k_is)
    refine' K53.with_str (x := "IN_NAMES") (z := "abcdefghijklmnopqrstuvwxyz0123456789_") KX G ?z (fun s_IN_NAMES => ?_)
    (case z => k_is)
    refine' K53.with_int (x := "LONGEST_NAME") (i := 24) KX G ?z (fun s_LNG => ?_)
    (case z => k_is)
    refine' K53.with_tup3 (x := "PAIRS") (z1 := "<=") (z2 := ">=") (z3 := "!=") KX G ?z ?l (fun s_PRS => ?_)
    (case z => k_is); (case l => k_is)
    refine' K53.with_tup8 (x := "KEPT") (z1 := "x") (z2 := "y") (z3 := "true") (z4 := "false") (z5 := "not") (z6 := "all") (z7 := "some") (z8 := "let") KX G ?z ?l (fun s_KPT => ?_)
    (case z => k_is); (case l => k_is)
    refine' K53.with_low KX G ?aC ?xL ?sa ?ga ?gg ?nb ?a1 ?t1 ?l1 ?c1 ?kC ?eC ?tC ?hC ?iC ?sC ?hb (fun lt => ?_)
    (case aC => k_is); (case xL => k_is); (case sa => k_is); (case ga => k_is); (case gg => k_is); (case nb => k_is)
    (case a1 => k_is); (case t1 => k_is); (case l1 => k_is); (case c1 => k_is)
    (case kC => k_is); (case eC => k_is); (case tC => k_is); (case hC => k_is); (case iC => k_is); (case sC => first | rfl | k_is); (case hb => rfl)
    exact K53.end_lawB d16 hmg (fun base tb => K53.whole ⟨z0, z1, z2, z3, z4, z5, z6, z7, z8, z9, z10⟩ ⟨s_DIGITS, s_SMALL, s_IN_NAMES, s_LNG, s_PRS, s_KPT⟩ lt hcd d0 d1 d2 d3 d4 d5 d6 d7 d8 d9 d10 d11 d12 d13 d14 d15 d16 base tb) (fun _ _ _ _ _ _ _ => rfl)
