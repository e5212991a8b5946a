import PyProof.Rows.All
import Wide.All
import OpenK.AllK
import Wide.FinOn
import HandS.ForMost
import HandS.Flow
import HandS.IsInst
import HandS.Defaults
import HandS.EndBits
import HandS.Wide
import HandS.WideBits
import HandS.SortInts
import HandS.Conv
import HandS.TupAny
import HandS.Style
import PyProof.ReprBulk
import HandS.HeadEnd
import HandS.HeadHook1
import HandS.HeadHook2
import HandS.Head0
import HandS.Head1
import HandS.Head2
import PyProof.ReprRoads
import PySem.Challenge.RW_affinewalk_k01_moduli_and_chains
set_option Elab.async false
set_option linter.all false
set_option maxRecDepth 100000
set_option maxHeartbeats 2000000
/-! Own layer over HandS: promises of defs that may print lists (the guards that run around are none). -/
namespace Vg
open PySem PySem.Spec PyProof.Rows L2
/-! ### a def's promise where no guard runs around -/
structure FnG (P : Program) (w : World) (K : PySem.W.Frag) (mg : Str → Option Value)
    (base : Heap) (k : Nat) (f : Addr) (fd : FuncData) (ps : List Str) (sp : Sp) : Prop where
  len : ∀ vs H Q E, sp vs H Q E → vs.length = ps.length
  run : ∀ (A : Around) (outer : List Env) (s : Shared) (H : Hp) (args : Args)
    (us : List Value) (vs : List V) (Q : VK),
    A.guards = some [] → Room k A → Env0 P w K mg base A outer s H →
    BindsTo s fd args (ps.zip us) → Vals vs us → sp vs H Q E0 →
    codeAny (model P w) A (.call (.ref f) args) (CR CX0 outer P w H s Q E0) s
section
variable {P : Program} {w : World} {K : PySem.W.Frag} {mg : Str → Option Value} {base : Heap}
theorem FnG.of {k : Nat} {f : Addr} {fd : FuncData} {ps : List Str} {sp : Sp}
    (F : FnOk P w K mg base CX0 k f fd ps sp) : FnG P w K mg base k f fd ps sp :=
  ⟨F.len, fun A outer s H args us vs Q _ hr he hb hv hs =>
    F.run A outer s H args us vs Q E0 hr he hb hv hs⟩
theorem FnG.mono {j k : Nat} {f : Addr} {fd : FuncData} {ps : List Str} {sp : Sp}
    (F : FnG P w K mg base j f fd ps sp) (h : j ≤ k) : FnG P w K mg base k f fd ps sp :=
  ⟨F.len, fun A outer s H args us vs Q hg hr =>
    F.run A outer s H args us vs Q hg (hr.mono h)⟩
/-- the context of a def's body -/
abbrev Cb (P : Program) (w : World) (K : PySem.W.Frag) (mg : Str → Option Value) (base : Heap)
    (N : List Str) (qual : Str) (scope : Scope) (f : Addr) (cdv : Value) (A : Around)
    (outer : List Env) (s : Shared) (H : Hp) : Cx :=
  cxOf CX0 P w K mg base N qual scope f cdv A outer s H E0
/-- the rule for a def -/
theorem FnG.mk_of {x qual : Str} {params : Arguments} {body : List Stmt} {scope : Scope}
    {kws : List (Str × V)} {dvs : List V} {f : Addr} {fd : FuncData} {N ps : List Str} {k : Nat} {sp : Sp}
    (F : FunD K x qual params body scope dvs kws f fd) (S : FnScope N ps scope)
    (len : ∀ vs H Q E, sp vs H Q E → vs.length = ps.length)
    (hbody : ∀ (cdv : Value) (A : Around) (outer : List Env) (s : Shared) (H : Hp)
      (vs : List V) (Q : VK),
      (Cb P w K mg base N qual scope f cdv A outer s H).A.guards = some [] →
      Room k (Cb P w K mg base N qual scope f cdv A outer s H).A → sp vs H Q E0 →
      ∃ t, PSs (Cb P w K mg base N qual scope f cdv A outer s H).nox body t ∧
        t { nx := fun _ H' => Q .non H', rt := Q } (start N vs) H) :
    FnG P w K mg base (k + 1) f fd ps sp := by
  obtain ⟨oc, od, dV, kV, doc, pm, an, cdv, ct, osl, rfl, lk, hcd, _, _⟩ := F.ex
  refine ⟨len, ?_⟩
  intro A outer s H args us vs Q hgu hr e0 hb r hsp
  have hln := len _ _ _ _ hsp
  have old : ∀ b o, base.get? b = some o → s.heap.get? b = some o :=
    fun b o e => (e0.bs b o e).1
  have KX : K.In s.heap := e0.mod.kin.keeps old
  have lim : s.heap.NoLimit := e0.mod.nolimit.keeps old
  have hk : ∀ y ∈ ps.zip us, scope.names.lookup y.1 = some .local ∨
      (scope.names.lookup y.1 = some .cell ∧
        ((cellsFrom (s.heap.objs.size + 1) scope.names []).lookup y.1).isSome = true) := by
    rintro ⟨n, v⟩ hy
    have hp := S.par n (List.of_mem_zip hy).1
    cases hp with
    | inl q => exact Or.inl q
    | inr q => exact Or.inr ⟨q, PySem.W.cellsFrom_some _ _ _ (Or.inl q)⟩
  have hcr := PySem.W.codeRec_of KX hcd
  refine codeAny_call_function hr.depth (KX _ _ lk)
    rfl S.co S.gen rfl hcr (hb _ _ _ _ ?_)
  refine wpAny_newFunctionEnv_cells S.kind hk ?_
  intro env he s1 x
  subst he
  refine ⟨lim.keeps x.toInCall.keep, codeAny_func ?_⟩
  obtain ⟨t, ht, hq⟩ := hbody cdv A outer s H vs Q hgu (hr.deeper _) hsp
  have I := inv_start (CX := CX0) (E := E0) S hr.hd e0 hln r x
  have hrun := ht.nox.run [] s1 (start N vs) H _ I hq
  refine wpAny_mono hrun ?_ fun e s' hs => hs
  intro fl s' hs
  cases fl with
  | brk =>
    obtain ⟨_, _, _, q⟩ := hs
    cases q
  | cont =>
    obtain ⟨_, _, _, q⟩ := hs
    cases q
  | next =>
    obtain ⟨σ', H', J, q⟩ := hs
    exact ⟨V.non, H', J.os, J.bare, J.base, J.hok, rfl, q⟩
  | ret u =>
    obtain ⟨v, σ', H', J, rv, q⟩ := hs
    exact ⟨v, H', J.os, J.bare, J.base, J.hok, rv, q⟩
end
/-! ### a call of such a def -/
/-- a module's def by its name: it keeps the promise sp, at most k deep -/
structure Cal (P : Program) (w : World) (K : PySem.W.Frag) (mg : Str → Option Value)
    (base : Heap) (k : Nat) (x : Str) (ps : List Str) (sp : Sp) : Prop where
  ex : ∃ f fd, FnG P w K mg base k f fd ps sp ∧ mg x = some (.ref f) ∧
    PySem.W.keepIn K (.ref f) = true ∧ Binds K fd ps []
section
variable {X : Cx} {k : Nat} {ps : List Str} {sp : Sp} {x : Str} {p pos : Pos}
  {e : Expr} {es : List Expr} {t : TA}
theorem run_cal {f : Addr} {fd : FuncData} {pins : List (Addr × Obj)} {σ : L2.St} {H : Hp} {s : Shared}
    {Q : VK} {us : List Value} {vs : List V}
    (F : FnG X.prog X.w X.K X.mg X.base k f fd ps sp) (hgu : X.A.guards = some [])
    (hr : Room k X.A) (hb : Binds X.K fd ps []) (I : Inv X pins σ H s) (r : Vals vs us)
    (h : sp vs H Q E0) :
    wpAny (model X.prog X.w) X.A (call (.ref f) us) (EP X pins σ Q) X.xe s := by
  have hl : us.length = ps.length := r.length.symm.trans (F.len _ _ _ _ h)
  have hbs := hb s us I.kIn (by simpa using hl)
  rw [List.append_nil] at hbs
  refine wpAny_call (codeAny_mono
    (F.run X.A X.stack s H ⟨us, []⟩ us vs Q hgu hr I.env0 hbs r h) ?_)
  intro res s' hq
  cases res with
  | error e => exact False.elim hq
  | ok fl =>
    cases fl with
    | next => cases hq
    | brk => cases hq
    | cont => cases hq
    | ret u => exact I.after hq
theorem pe_cal (c : Cal X.prog X.w X.K X.mg X.base k x ps sp) (hgu : X.A.guards = some [])
    (hr : Room k X.A) (ha : PA X (e :: es) t) (hg : Gl X x := by rfl)
    (hdb : (x == ("__debug__" : Str)) = false := by decide)
    (he : starEach (e :: es) X.env = (false, eval e X.env) :: starEach es X.env := by rfl)
    (hpl : (backTo pos (starEach es X.env)).any (·.1) = false := by rfl) :
    PE X (.Call (.Name x p) (e :: es) [] pos) (tCall sp [] E0 t) := by
  obtain ⟨f, fd, F, hm, hk, hb⟩ := c.ex
  constructor
  intro pins s σ H Q I h
  refine wpAny_Call_Name_kw (ld_glob I hg hm ?_ hdb)
  refine PySem.W.callWith_K (h₀ := X.base) I.ok.mod.kin hk (thn (ha.run pos pins s σ H _ I h) ?_) he hpl
  intro us s1 hh
  obtain ⟨vs, H1, I1, r, q⟩ := hh
  rw [List.append_nil] at q
  exact ⟨I1.kIn, run_cal F hgu hr hb I1 r q⟩
theorem pe_cal0 (c : Cal X.prog X.w X.K X.mg X.base k x ps sp) (hgu : X.A.guards = some [])
    (hr : Room k X.A) (hg : Gl X x := by rfl)
    (hdb : (x == ("__debug__" : Str)) = false := by decide) :
    PE X (.Call (.Name x p) [] [] pos) (tCall sp [] E0 tNil) := by
  obtain ⟨f, fd, F, hm, hk, hb⟩ := c.ex
  constructor
  intro pins s σ H Q I h
  refine wpAny_Call_Name_kw (ld_glob I hg hm ?_ hdb)
  have hc := run_cal (us := []) F hgu hr hb I .nil h
  exact PySem.W.callWith_K0 I.kIn hk hc
/-- a module's constant -/
theorem pe_globI {i : Int} (hg : Gl X x) (h : ∃ t, X.mg x = some (.int i t))
    (hdb : (x == ("__debug__" : Str)) = false := by decide) :
    PE X (.Name x pos) (tC (.int i)) := by
  obtain ⟨t, h⟩ := h
  exact pe_glob hg h ⟨t, rfl⟩ hdb
theorem pe_globS {i : Str} (hg : Gl X x) (h : ∃ t, X.mg x = some (.str i t))
    (hdb : (x == ("__debug__" : Str)) = false := by decide) :
    PE X (.Name x pos) (tC (.str i)) := by
  obtain ⟨t, h⟩ := h
  exact pe_glob hg h ⟨t, rfl⟩ hdb
end

/-! ### repr of data: none, bools, ints, texts, lists, tuples at any depth -/
mutual
theorem dp_nod {K : PySem.W.Frag} {H : Hp} : ∀ (d : PyData) (v : V), Dp K H v d → d.hasDict = false
  | .none, _, _ => by simp only [PyData.hasDict]
  | .bool _, _, _ => by simp only [PyData.hasDict]
  | .int _, _, _ => by simp only [PyData.hasDict]
  | .str _, _, _ => by simp only [PyData.hasDict]
  | .list ds, _, h => by
    cases h with
    | lst _ ha =>
      simp only [PyData.hasDict]
      exact dps_nod ds _ ha
  | .tuple ds, _, h => by
    cases h with
    | tup _ ha =>
      simp only [PyData.hasDict]
      exact dps_nod ds _ ha
  | .dict _, _, h => by cases h
theorem dps_nod {K : PySem.W.Frag} {H : Hp} : ∀ (ds : List PyData) (vs : List V), DpAll K H vs ds →
    PyData.hasDictAll ds = false
  | [], _, _ => by simp only [PyData.hasDictAll]
  | d :: ds, _, h => by
    cases h with
    | cons h1 h2 =>
      simp only [PyData.hasDictAll]
      rw [dp_nod d _ h1, dps_nod ds _ h2]
      rfl
end
section
variable {X : Cx}
/-- what repr asks: the data (ints below 2 ^ 1900), its length -/
def rRepr (K : PySem.W.Frag) : List V → Hp → VK → Prop := fun xs H Q =>
  ∃ v d, xs = [v] ∧ Dp K H v d ∧ d.showable = true ∧ d.depth ≤ 60 ∧
    d.shown.length ≤ sizeLine ∧ Q (.str d.shown) H
theorem call_repr (hgu : X.A.guards = some []) (hu : X.A.units + 64 < cLine) :
    CallR X (.builtin "repr") (rRepr X.K) := by
  intro pins s σ H xs us Q I r h
  obtain ⟨v, d, rfl, hd, hs, hdep, hz, q⟩ := h
  obtain ⟨u, rfl, ru⟩ := vals1 r
  obtain ⟨as, R⟩ := Dp.reads I d v u hd ru
  have hno : d.hasDict = true → sysModules ∉ as := fun z => by
    rw [dp_nod d v hd] at z
    cases z
  cases R with
  | none => exact PySem.P.repr_of_none ⟨.str _, H, I.tok _, ⟨_, rfl⟩, q⟩
  | bool b => exact PySem.P.repr_of_bool ⟨.str _, H, I.tok _, ⟨_, rfl⟩, q⟩
  | int i t => exact PySem.P.repr_of_int (of_decide_eq_true hs) ⟨.str _, H, I.tok _, ⟨_, rfl⟩, q⟩
  | str x t => exact PySem.P.repr_of_str ⟨.str _, H, I.tok _, ⟨_, rfl⟩, q⟩ hz
  | list h1 h2 h3 h4 =>
    exact repr_of_reads' (.list h1 h2 h3 h4) hs hno hgu (by omega) (fun _ _ e => e)
      (fun h' uu tk kk => ⟨.str _, H, I.kept kk, ⟨_, rfl⟩, q⟩) hz
  | tuple h1 h2 h3 h4 =>
    exact repr_of_reads' (.tuple h1 h2 h3 h4) hs hno hgu (by omega) (fun _ _ e => e)
      (fun h' uu tk kk => ⟨.str _, H, I.kept kk, ⟨_, rfl⟩, q⟩) hz
  | dict h1 h2 h3 h4 h5 => cases hd
end

/-! ### the law's call, from the promise of the law's def -/
/-- the law's def, at the heap in which nothing but the script may be tracked -/
theorem law_runG {P : Program} {w : World} {K : PySem.W.Frag} {mg mb : Str → Option Value} {k : Nat}
    {fa a : Addr} {fd : FuncData} {x : Str} {sp : Sp} {s₁ : Shared} {vs : List Value} {H : Hp}
    (KX : K.In s₁.heap) (hns : s₁.heap.Ns mainGlobals mg) (hb : s₁.heap.Ns builtinsNs mb)
    (hbb : ∀ x : Str, x ≠ "__name__" → mb x = bootBuiltins x)
    (hlim : s₁.heap.NoLimit) (hg : s₁.gens = #[])
    (ha : s₁.heap.get? a = some { cls := .type "list", data := .seq vs.toArray })
    (hr : Room k callerA)
    (F : ∀ base : Heap, K.In base → base.Ns mainGlobals mg → FnG P w K mg base k fa fd [x] sp)
    (hbind : ∀ (s : Shared) (u : Value), BindsTo s fd ⟨[u], []⟩ [(x, u)])
    (hsp : sp [.ref a] H (fun v _ => v = .bl true) E0)
    (hO : Only H) (hok : HOk P w H s₁.heap) (hA : ∀ b, H b ≠ none → b = a)
    (hK : H a ≠ none → K.lookup a = none) :
    codeAny (model P w) callerA (.call (.ref fa) ⟨[.ref a], []⟩)
      (fun r s' => r = .ok (.ret (.bool true)) ∧ OldK s₁.heap s'.heap ∧ s'.os = s₁.os ∧
        AllBare s'.gens) s₁ := by
  have tracked : ∀ {b : Addr}, b ≠ a → H b = none := by
    intro b ne
    cases q : H b with
    | none => rfl
    | some u => exact absurd (hA b (by rw [q]; simp)) ne
  have low : ∀ {b : Addr} {o : Obj}, s₁.heap.get? b = some o → H b = none →
      (hidT s₁.heap H).get? b = some o := by
    intro b o e n
    exact hidT_get e n
  have dictFree : ∀ {b : Addr} {o : Obj} {es : Array DictEntry} {ep : Nat},
      s₁.heap.get? b = some o → o.data = .dict es ep → H b = none := by
    intro b o es ep e d
    refine tracked ?_
    intro z
    rw [z, ha] at e
    cases e
    cases d
  have nsLow : ∀ {b : Addr} {m : Str → Option Value}, s₁.heap.Ns b m → (hidT s₁.heap H).Ns b m := by
    intro b m z
    obtain ⟨o, es, ep, e, d, r⟩ := z
    exact ⟨o, es, ep, low e (dictFree e d), d, r⟩
  have kLow : K.In (hidT s₁.heap H) := by
    intro b o e
    refine low (KX b o e) ?_
    cases q : H b with
    | none => rfl
    | some u =>
      have eb : b = a := hA b (by rw [q]; simp)
      have hn : K.lookup a = none := hK (by rw [← eb, q]; simp)
      rw [eb, hn] at e
      cases e
  have limLow : (hidT s₁.heap H).NoLimit := by
    obtain ⟨mc, h1, h2⟩ := hlim
    exact ⟨mc, nsLow h1, h2⟩
  have hM : Mod K mg (hidT s₁.heap H) := ⟨kLow, nsLow hns, ⟨mb, nsLow hb, hbb⟩, limLow⟩
  have e0 : Env0 P w K mg (hidT s₁.heap H) callerA [] s₁ H :=
    { frames := rfl, mod := hM, bs := fun b o e => of_hidT e,
      bsz := Nat.le_of_eq (hidT_size _ _), funs := trivial,
      frf := (fun b z => by cases z), hok := hok, bare := .of_eq hg }
  have run := (F _ kLow (nsLow hns)).run callerA [] s₁ H ⟨[.ref a], []⟩ [.ref a] [.ref a] _
    rfl hr e0 (hbind s₁ (.ref a)) (.cons rfl .nil) hsp
  refine codeAny_mono run ?_
  intro r s' h
  cases r with
  | error e => cases h
  | ok fl =>
    cases fl with
    | next => cases h
    | brk => cases h
    | cont => cases h
    | ret u =>
      obtain ⟨v, H', hos, bare, un, hok', r', q⟩ := h
      have ev : v = .bl true := q
      rw [ev] at r'
      have eu : u = Value.bool true := r'
      refine ⟨by rw [eu], OldK.of_keep ?_, hos, bare⟩
      intro b o e
      cases q2 : H b with
      | none => exact un.keep b o e q2 (by intro z; cases z) (by intro z; cases z)
      | some u2 =>
        cases hO b with
        | inl z => rw [q2] at z; cases z
        | inr z =>
          obtain ⟨ob, xs, z⟩ := z
          obtain ⟨e1, _⟩ := hok b _ z
          obtain ⟨e2, _⟩ := hok' b _ (un.frzs b ob _ z)
          rw [e] at e1
          cases e1
          exact e2
theorem law_callG {P : Program} {w : World} {K : PySem.W.Frag} {mg mb : Str → Option Value} {k : Nat}
    {fa a : Addr} {fd : FuncData} {x : Str} {sp : Sp} {s₁ : Shared} {vs : List Value} {ns : List Int}
    (KX : K.In s₁.heap) (hns : s₁.heap.Ns mainGlobals mg) (hb : s₁.heap.Ns builtinsNs mb)
    (hbb : ∀ x : Str, x ≠ "__name__" → mb x = bootBuiltins x)
    (hlim : s₁.heap.NoLimit) (hg : s₁.gens = #[])
    (ha : s₁.heap.get? a = some { cls := .type "list", data := .seq vs.toArray })
    (hi : IntsAre vs ns) (hl : ns.length ≤ sizeLine) (hr : Room k callerA)
    (F : ∀ base : Heap, K.In base → base.Ns mainGlobals mg → FnG P w K mg base k fa fd [x] sp)
    (hbind : ∀ (s : Shared) (u : Value), BindsTo s fd ⟨[u], []⟩ [(x, u)])
    (hsp : ∀ H : Hp, Only H → SqL K H a (ns.map V.int) → sp [.ref a] H (fun v _ => v = .bl true) E0) :
    codeAny (model P w) callerA (.call (.ref fa) ⟨[.ref a], []⟩)
      (fun r s' => r = .ok (.ret (.bool true)) ∧ OldK s₁.heap s'.heap ∧ s'.os = s₁.os ∧
        AllBare s'.gens) s₁ := by
  have rv := vals_ints hi
  have lenV := hi.length
  cases hk : K.lookup a with
  | some o =>
    have e := KX a o hk
    rw [ha] at e
    have eo := Option.some.inj e
    have hS : SqL K (fun _ => none) a (ns.map V.int) :=
      .inr ⟨_, vs.toArray, _, hk, by rw [← eo], by rw [← eo], by rw [← eo],
        by rw [List.size_toArray, lenV]; exact hl, by simpa using rv⟩
    exact law_runG KX hns hb hbb hlim hg ha hr F hbind (hsp _ (fun _ => .inl rfl) hS) (fun _ => .inl rfl)
      (fun b u z => by cases z) (fun b z => absurd rfl z) (fun z => absurd rfl z)
  | none =>
    let ob : Obj := { cls := .type "list", data := .seq vs.toArray }
    let H : Hp := fun b => if b = a then some (.frz ob (.lst (ns.map V.int))) else none
    have hH : H a = some (.frz ob (.lst (ns.map V.int))) := if_pos rfl
    have hO : Only H := by
      intro b
      by_cases eb : b = a
      · exact .inr ⟨_, _, if_pos eb⟩
      · exact .inl (if_neg eb)
    have hok : HOk P w H s₁.heap := by
      intro b u z
      by_cases eb : b = a
      · rw [eb, hH] at z
        cases z
        rw [eb]
        exact ⟨ha, by rw [List.length_map]; exact hl, vs, _, rv, ha⟩
      · have z' : H b = none := if_neg eb
        rw [z'] at z
        cases z
    have hA : ∀ b, H b ≠ none → b = a := by
      intro b z
      by_cases eb : b = a
      · exact eb
      · exact absurd (if_neg eb) z
    exact law_runG KX hns hb hbb hlim hg ha hr F hbind (hsp H hO (.inl (.inr ⟨ob, hH⟩))) hO hok hA
      (fun _ => hk)
/-- the end of a law's row over a head by facts; the script's bits are told -/
theorem walkG {l : PySem.W.OpenLaw} {n k : Nat} {q : Program} {loose : List Str}
    {XP : (Str → Option Value) → Heap → Prop} {YP : World → Heap → Prop} {d : DefRec} {x : Str}
    (hn : l.most = some n) (hn2 : n ≤ sizeLine) (hdf : d.params.defaults = []) (hr : Room k callerA)
    (F : ∀ (w : World) (mg : Str → Option Value) (fa : Addr) (h : Heap), YP w h →
      h.Ns mainGlobals mg → mg d.name = some (.ref fa) →
      ∃ (K : PySem.W.Frag) (fd : FuncData) (sp : Sp), K.In h ∧
        (∀ (s : Shared) (u : Value), BindsTo s fd ⟨[u], []⟩ [(x, u)]) ∧
        (∀ (H : Hp) (a : Addr) (ns : List Int), ns.length ≤ n →
          (∀ z ∈ ns, Builtin.Int.intBits z ≤ 1048576) → Only H → SqL K H a (ns.map V.int) →
          sp [.ref a] H (fun v _ => v = .bl true) E0) ∧
        ∀ base : Heap, K.In base → base.Ns mainGlobals mg →
          FnG l.prog w K mg base k fa fd [x] sp) :
    PySem.W.WalkO q loose XP YP l.row.toRowW d [] (fun f vs => PySem.call f vs) := by
  refine Att.attach_callB hn hdf ?_
  intro w s₀ s₁ mg mb fa o pm cd doc a vs ns G Y ho hd hcd hmg hobj hints hlen hbits hg
  obtain ⟨K, fd, sp, KX, hb, hsp, hF⟩ := F w mg fa _ Y G.T.g hmg
  exact law_callG KX G.T.g G.T.b G.T.builtins G.T.nolimit hg hobj hints (Nat.le_trans hlen hn2) hr hF hb
    (fun H hO hS => hsp H a ns hlen hbits hO hS)
end Vg

set_option Elab.async false
set_option linter.all false
set_option maxRecDepth 100000
set_option maxHeartbeats 2000000
namespace Vg
open PySem PySem.Spec PyProof.Rows L2
/-! ### the head's facts: predicates of the written part, and the defs -/
def seenX (fs : List (PySem.W.Frag → Bool)) (fn : List He.DefD) (K : PySem.W.Frag) : He.AlD :=
  ((fs.all fun f => f K) && (fn.all fun d => d.ok K), fn.map fun d => He.fnW K d.at_)
def SaysX (fs : List (PySem.W.Frag → Bool)) (fn : List He.DefD) (K : PySem.W.Frag) : Prop :=
  seenX fs fn K = He.valD fn
def seenG (n : Nat) (fs : List (PySem.W.Frag → Bool)) (fn : List He.DefD) (g : Addr → Option Obj) : He.AlD :=
  seenX fs fn (He.frG g (He.asD g n))
def hookX (n : Nat) (fs : List (PySem.W.Frag → Bool)) (fn : List He.DefD) : PySem.W.Hook where
  α := He.AlD
  obs := fun s => seenG n fs fn s.heap.get?
  val := fun _ => He.valD fn
  says := fun _ h => ∃ K : PySem.W.Frag, K.In h ∧ SaysX fs fn K
  of := fun _ _ e => ⟨_, He.frG_in, e⟩
  keeps := fun _ _ _ z k => by
    obtain ⟨K, hK, c⟩ := z
    exact ⟨K, PySem.W.Frag.In.keeps hK k, c⟩
theorem seenG_eq {n : Nat} {fs : List (PySem.W.Frag → Bool)} {fn : List He.DefD} {g : Addr → Option Obj}
    {s : Shared} (h : ∀ a, g a = s.heap.get? a) : seenG n fs fn g = (hookX n fs fn).obs s := by
  have e : g = s.heap.get? := funext h
  subst e
  rfl
section
variable {fs : List (PySem.W.Frag → Bool)} {fn : List He.DefD} {K : PySem.W.Frag}
theorem SaysX.both (c : SaysX fs fn K) : (fs.all fun f => f K) = true ∧ (fn.all fun d => d.ok K) = true := by
  have e : ((fs.all fun f => f K) && (fn.all fun d => d.ok K)) = true :=
    congrArg (fun z : He.AlD => z.1) (show seenX fs fn K = He.valD fn from c)
  exact Bool.and_eq_true_iff.mp e
theorem SaysX.fact (c : SaysX fs fn K) (i : Nat) {f : PySem.W.Frag → Bool} (h : fs[i]? = some f := by rfl) :
    f K = true := List.all_eq_true.mp c.both.1 f (List.mem_of_getElem? h)
theorem SaysX.def_ (c : SaysX fs fn K) (i : Nat) {d : He.DefD} (h : fn[i]? = some d := by rfl) :
    ∃ fd, FunD K d.name d.qual d.params d.body d.scope (d.dvs K) (d.kws K) (He.fAd K d.at_) fd := by
  have e : fn.map (fun d => He.fnW K d.at_) = fn.map He.DefD.val :=
    congrArg (fun z : He.AlD => z.2) (show seenX fs fn K = He.valD fn from c)
  have e2 := congrArg (fun z => z[i]?) e
  simp only [List.getElem?_map, h, Option.map_some, Option.some.injEq] at e2
  exact He.DefD.funD e2 (List.all_eq_true.mp c.both.2 d (List.mem_of_getElem? h))
end
/-- a def of the text, without defaults, as the module's name x -/
def dOf (x : Str) (st : Stmt) : He.DefD := ⟨(x, none), x, x, defArgs st, defBody st, defScope st, [], []⟩
def DefAt (K : PySem.W.Frag) (mg : Str → Option Value) (x : Str) (st : Stmt) : Prop :=
  ∃ fd, FunD K x x (defArgs st) (defBody st) (defScope st) [] [] (He.ga K x) fd ∧
    mg x = some (.ref (He.ga K x))
theorem defAt {fs : List (PySem.W.Frag → Bool)} {fn : List He.DefD} {K : PySem.W.Frag} {h : Heap}
    {mg : Str → Option Value} (X : K.In h) (G : h.Ns mainGlobals mg) (c : SaysX fs fn K) {x : Str} {st : Stmt}
    (i : Nat) (j : Nat) (hd : fn[i]? = some (dOf x st) := by rfl)
    (hg : fs[j]? = some (fun K => (He.Fa.glo x).ok K) := by rfl) : DefAt K mg x st := by
  obtain ⟨fd, F⟩ := c.def_ i hd
  exact ⟨fd, F, He.glo_ok X G (c.fact j hg)⟩
section
variable {P : Program} {w : World} {K : PySem.W.Frag} {mg : Str → Option Value} {base : Heap}
theorem cal_mk {x : Str} {st : Stmt} {N ps : List Str} {k : Nat} {sp : Sp} (D : DefAt K mg x st)
    (S : FnScope N ps (defScope st))
    (hb : ∀ (dV kV doc pm : Value) (an : Option Addr) (cdv ct : Value) (us : List Value), us.length = ps.length →
      bindArgs (PySem.W.fnOf x x (defArgs st) (defBody st) (defScope st) .none kV doc pm an cdv ct) ⟨us, []⟩
        = pure (ps.zip us))
    (len : ∀ vs H Q E, sp vs H Q E → vs.length = ps.length)
    (hbody : ∀ (f : Addr) (cdv : Value) (A : Around) (outer : List Env) (s : Shared) (H : Hp)
      (vs : List V) (Q : VK),
      (Cb P w K mg base N x (defScope st) f cdv A outer s H).A.guards = some [] →
      Room k (Cb P w K mg base N x (defScope st) f cdv A outer s H).A → sp vs H Q E0 →
      ∃ t, PSs (Cb P w K mg base N x (defScope st) f cdv A outer s H).nox (defBody st) t ∧
        t { nx := fun _ H' => Q .non H', rt := Q } (start N vs) H) :
    Cal P w K mg base (k + 1) x ps sp := by
  obtain ⟨fd, F, hm⟩ := D
  refine ⟨_, fd, FnG.mk_of F S len (hbody _), hm, F.kp, ?_⟩
  exact F.bindsN fun kV doc pm an cdv ct us hl => hb .none kV doc pm an cdv ct us hl
theorem Cal.mono {x : Str} {ps : List Str} {j k : Nat} {sp : Sp} (c : Cal P w K mg base j x ps sp)
    (h : j ≤ k) : Cal P w K mg base k x ps sp := by
  obtain ⟨f, fd, F, r⟩ := c.ex
  exact ⟨f, fd, F.mono h, r⟩
end
end Vg

set_option Elab.async false
set_option linter.all false
set_option maxRecDepth 100000
set_option maxHeartbeats 2000000
namespace Vg
open PySem PySem.Spec PyProof.Rows L2
/-! ### heaps -/
/-- all that was tracked, but what stands at p, is as it was -/
def But (p : Addr) (H H' : Hp) : Prop := ∀ b o, b ≠ p → H b = some o → H' b = some o
theorem But.refl (p : Addr) (H : Hp) : But p H H := fun _ _ _ h => h
theorem But.trans {p : Addr} {H H1 H2 : Hp} (a : But p H H1) (b : But p H1 H2) : But p H H2 :=
  fun c o n h => b c o n (a c o n h)
theorem But.of {p : Addr} {H H' : Hp} (a : Same H H') : But p H H' := fun b o _ h => a b o h
theorem But.at_ {p : Addr} {H : Hp} {o : HO} : But p H (upd H p o) := fun b u n h => by
  rw [upd_ne n]; exact h
theorem sm_new {H : Hp} {p : Addr} {o : HO} (h : H p = none) : Same H (upd H p o) := fun b u e => by
  rw [upd_ne (ne_of_none e h)]; exact e
theorem But.new {q p : Addr} {H : Hp} {o : HO} (h : H p = none) : But q H (upd H p o) := But.of (sm_new h)
theorem sm_nw {H0 H : Hp} {p : Addr} {o : HO} (a : Same H0 H) (h : H p = none) : Same H0 (upd H p o) := a.trans (sm_new h)
theorem But.nw {q : Addr} {H0 H : Hp} {p : Addr} {o : HO} (a : But q H0 H) (h : H p = none) : But q H0 (upd H p o) := a.trans (But.new h)
/-- a place that was free may be written -/
theorem sm_own {H0 H : Hp} {p : Addr} {o : HO} (a : Same H0 H) (h : H0 p = none) : Same H0 (upd H p o) := fun b u e => by
  rw [upd_ne (ne_of_none e h)]; exact a b u e
theorem But.own {q : Addr} {H0 H : Hp} {p : Addr} {o : HO} (a : But q H0 H) (h : H0 p = none) : But q H0 (upd H p o) := fun b u n e => by
  rw [upd_ne (ne_of_none e h)]; exact a b u n e
theorem But.wr {q : Addr} {H0 H : Hp} {o : HO} (a : But q H0 H) : But q H0 (upd H q o) := fun b u n e => by
  rw [upd_ne n]; exact a b u n e
theorem But.seq {K : PySem.W.Frag} {p a : Addr} {H H' : Hp} {xs : List V} (e : But p H H') (n : a ≠ p)
    (h : SqL K H a xs) : SqL K H' a xs := by
  rcases h with (h | ⟨o, h⟩) | h
  · exact .inl (.inl (e _ _ n h))
  · exact .inl (.inr ⟨o, e _ _ n h⟩)
  · exact .inr h
theorem But.tup {K : PySem.W.Frag} {p a : Addr} {H H' : Hp} {xs : List V} (e : But p H H') (n : a ≠ p)
    (h : SqT K H a xs) : SqT K H' a xs := by
  rcases h with (h | ⟨o, h⟩) | h
  · exact .inl (.inl (e _ _ n h))
  · exact .inl (.inr ⟨o, e _ _ n h⟩)
  · exact .inr h
theorem sm_tup {K : PySem.W.Frag} {a : Addr} {H H' : Hp} {xs : List V} (e : Same H H')
    (h : SqT K H a xs) : SqT K H' a xs := by
  rcases h with (h | ⟨o, h⟩) | h
  · exact .inl (.inl (e _ _ h))
  · exact .inl (.inr ⟨o, e _ _ h⟩)
  · exact .inr h
theorem But.free {p l : Addr} {H H' : Hp} (e : But p H H') (n : l ≠ p) (h : H' l = none) : H l = none := by
  cases q : H l with
  | none => rfl
  | some o => rw [e l o n q] at h; cases h
/-- a list's address is no dict's -/
theorem ne_dl {H : Hp} {a p : Addr} {xs : List V} {kvs : List (Key × V)} (h : H a = some (.lst xs))
    (hp : H p = some (.dK kvs)) : a ≠ p := ne_of h hp (by intro z; cases z)
theorem ne_dt {H : Hp} {a p : Addr} {xs : List V} {kvs : List (Key × V)} (h : H a = some (.tup xs))
    (hp : H p = some (.dK kvs)) : a ≠ p := ne_of h hp (by intro z; cases z)
/-! ### the pen -/
def penD (L : Addr) (t r : Int) : List (Key × V) :=
  [(.inr "cells", .ref L), (.inr "turn", .int t), (.inr "rest", .int r)]
theorem pen_cells (L : Addr) (t r : Int) : valV (penD L t r) (.inr "cells") = some (.ref L) := by
  simp [penD, valV, List.find?]
theorem pen_turn (L : Addr) (t r : Int) : valV (penD L t r) (.inr "turn") = some (.int t) := by
  have h : ¬ (("cells" : Str) = "turn") := by decide +kernel
  simp [penD, valV, List.find?, h]
theorem pen_rest (L : Addr) (t r : Int) : valV (penD L t r) (.inr "rest") = some (.int r) := by
  have h : ¬ (("cells" : Str) = "rest") := by decide +kernel
  have h2 : ¬ (("turn" : Str) = "rest") := by decide +kernel
  simp [penD, valV, List.find?, h, h2]
theorem pen_putT (L : Addr) (t r u : Int) : putK (penD L t r) (.inr "turn") (.int u) = penD L u r := by
  have h : ¬ (("cells" : Str) = "turn") := by decide +kernel
  have h2 : ¬ (("rest" : Str) = "turn") := by decide +kernel
  simp [penD, putK, h, h2]
theorem pen_putR (L : Addr) (t r u : Int) : putK (penD L t r) (.inr "rest") (.int u) = penD L t u := by
  have h : ¬ (("cells" : Str) = "rest") := by decide +kernel
  have h2 : ¬ (("turn" : Str) = "rest") := by decide +kernel
  simp [penD, putK, h, h2]
theorem pen_merge (L : Addr) (t r : Int) : mergeK [] (penD L t r) = penD L t r := by
  have h : ¬ (("cells" : Str) = "turn") := by decide +kernel
  have h2 : ¬ (("cells" : Str) = "rest") := by decide +kernel
  have h3 : ¬ (("turn" : Str) = "rest") := by decide +kernel
  simp [penD, mergeK, putK, h, h2, h3]
theorem cut_take (ns : List Int) : cutV (ns.map V.int) none (some 63) = (ns.take 63).map V.int := by
  unfold cutV HT.sIx
  simp [List.map_take]
/-- a pen at p, its cells at L, that has taken at most n cells -/
def PenAt (H : Hp) (p L : Addr) (n : Nat) : Prop := ∃ (cs : List Int) (t r : Int),
  H p = some (.dK (penD L t r)) ∧ H L = some (.lst (cs.map V.int)) ∧ cs.length ≤ 63 ∧ 0 ≤ t ∧ t ≤ n ∧ 0 ≤ r
section
variable {H H' : Hp} {p L a : Addr} {n m : Nat} {xs ys : List V}
theorem PenAt.mono (h : PenAt H p L n) (l : n ≤ m) : PenAt H p L m := by
  obtain ⟨cs, t, r, h1, h2, h3, h4, h5, h6⟩ := h
  exact ⟨cs, t, r, h1, h2, h3, h4, by omega, h6⟩
theorem PenAt.same (h : PenAt H p L n) (e : Same H H') : PenAt H' p L n := by
  obtain ⟨cs, t, r, h1, h2, h3⟩ := h
  exact ⟨cs, t, r, e _ _ h1, e _ _ h2, h3⟩
theorem PenAt.new {o : HO} (h : PenAt H p L n) (e : H a = none) : PenAt (upd H a o) p L n := h.same (sm_new e)
theorem PenAt.some_ (h : PenAt H p L n) : ∃ kvs, H p = some (.dK kvs) := by
  obtain ⟨cs, t, r, h1, _⟩ := h
  exact ⟨_, h1⟩
theorem PenAt.someL (h : PenAt H p L n) : ∃ cs, H L = some (.lst cs) := by
  obtain ⟨cs, t, r, _, h1, _⟩ := h
  exact ⟨_, h1⟩
theorem PenAt.ne_l (h : PenAt H p L n) (ha : H a = some (.lst xs)) : a ≠ p := by
  obtain ⟨_, hp⟩ := h.some_
  exact ne_dl ha hp
theorem PenAt.ne_t (h : PenAt H p L n) (ha : H a = some (.tup xs)) : a ≠ p := by
  obtain ⟨_, hp⟩ := h.some_
  exact ne_dt ha hp
theorem PenAt.ne_n (h : PenAt H p L n) (ha : H a = none) : a ≠ p := by
  obtain ⟨_, hp⟩ := h.some_
  exact (ne_of_none hp ha).symm
theorem PenAt.ne_nL (h : PenAt H p L n) (ha : H a = none) : a ≠ L := by
  obtain ⟨_, hp⟩ := h.someL
  exact (ne_of_none hp ha).symm
/-- what is written apart from the pen and its cells -/
theorem PenAt.wr {o : HO} (h : PenAt H p L n) (ha : a ≠ p) (hL : a ≠ L) : PenAt (upd H a o) p L n := by
  obtain ⟨cs, t, r, h1, h2, h3⟩ := h
  exact ⟨cs, t, r, (upd_ne ha.symm).trans h1, (upd_ne hL.symm).trans h2, h3⟩
end
/-! ### the promises of the pen's defs -/
def sp_pen (K : PySem.W.Frag) : Sp := fun vs H Q _ => ∃ (a : Addr) (ns : List Int), vs = [.ref a] ∧
  SqL K H a (ns.map V.int) ∧ ns.length ≤ 63 ∧ ∀ H' p L, Same H H' → H p = none → H L = none → PenAt H' p L 0 → Q (.ref p) H'
def sp_draw : Sp := fun vs H Q _ => ∃ (p L : Addr) (n : Nat) (many : Int), vs = [.ref p, .int many] ∧ PenAt H p L n ∧
  n ≤ 100000000 ∧ 0 < many ∧ many.natAbs.log2 < 9000 ∧
  ∀ H' d, But p H H' → PenAt H' p L (n + 1) → 0 ≤ d → d < many → Q (.int d) H'
/-- an item of the list, tuple -/
def sp_pick (K : PySem.W.Frag) : Sp := fun vs H Q _ => ∃ (p L a : Addr) (n : Nat) (xs : List V), vs = [.ref p, .ref a] ∧ PenAt H p L n ∧
  n ≤ 100000000 ∧ (SqL K H a xs ∨ SqT K H a xs) ∧ a ≠ p ∧ 0 < xs.length ∧ xs.length ≤ 1000000 ∧
  ∀ H' v, But p H H' → PenAt H' p L (n + 1) → v ∈ xs → Q v H'
/-- the ints in another order, each at most once -/
def sp_shuffled (K : PySem.W.Frag) : Sp := fun vs H Q _ => ∃ (p L a : Addr) (n : Nat) (ns : List Int), vs = [.ref p, .ref a] ∧ PenAt H p L n ∧
  n + ns.length ≤ 100000000 ∧ SqL K H a (ns.map V.int) ∧ ns.length ≤ 1000 ∧
  ∀ H' l (ms : List Int), But p H H' → PenAt H' p L (n + ns.length) → H l = none → H' l = some (.lst (ms.map V.int)) → ms.Perm ns → Q (.ref l) H'
theorem len_log {n : Nat} (r : n ≤ 1000000) (h : 0 < n) : ((n : Nat) : Int).natAbs.log2 < 9000 := by
  have h1 : ((n : Nat) : Int).natAbs < 2 ^ 64 := by
    have e : (2 : Nat) ^ 64 = 18446744073709551616 := by decide
    omega
  exact Nat.lt_of_lt_of_le (PySem.Flt.log2_lt_of (by decide) h1) (by decide)
theorem log_lt {m : Int} (h : m < 18446744073709551616) (h0 : 0 < m) : m.natAbs.log2 < 9000 := by
  have h1 : m.natAbs < 2 ^ 64 := by
    have e : (2 : Nat) ^ 64 = 18446744073709551616 := by decide
    omega
  exact Nat.lt_of_lt_of_le (PySem.Flt.log2_lt_of (by decide) h1) (by decide)
/-- a remainder by five picks one of five -/
theorem pick5 {a b c d e : Int} {t : Int} (P : Int → Prop) (ha : P a) (hb : P b) (hc : P c) (hd : P d) (he : P e) (ht : 0 ≤ t) :
    ∃ v, atI [V.int a, .int b, .int c, .int d, .int e] (t.fmod 5) = some (.int v) ∧ P v := by
  rw [Int.fmod_eq_emod_of_nonneg _ (by decide)]
  have h0 := Int.emod_nonneg t (by decide : (5 : Int) ≠ 0)
  have h1 := Int.emod_lt_of_pos t (by decide : (0 : Int) < 5)
  generalize t % 5 = k at *
  have hk : k = 0 ∨ k = 1 ∨ k = 2 ∨ k = 3 ∨ k = 4 := by omega
  rcases hk with rfl | rfl | rfl | rfl | rfl
  · exact ⟨a, rfl, ha⟩
  · exact ⟨b, rfl, hb⟩
  · exact ⟨c, rfl, hc⟩
  · exact ⟨d, rfl, hd⟩
  · exact ⟨e, rfl, he⟩
theorem fmod_b {a b : Int} (h : 0 < b) : 0 ≤ a.fmod b ∧ a.fmod b < b :=
  ⟨Int.fmod_nonneg_of_pos a h, Int.fmod_lt_of_pos a h⟩
theorem fdiv_nn {a b : Int} (h : 0 ≤ a) (hb : 0 < b) : 0 ≤ a.fdiv b := Int.fdiv_nonneg h (by omega)
theorem at_mod {xs : List Int} {t : Int} (h : 0 < xs.length) : ∃ v, atI (xs.map V.int) (t.fmod ((xs.map V.int).length : Int)) = some (.int v) := by
  have hb := fmod_b (a := t) (b := (xs.length : Int)) (by omega)
  rw [List.length_map]
  obtain ⟨j, hj⟩ : ∃ j : Nat, t.fmod (xs.length : Int) = (j : Int) := ⟨(t.fmod (xs.length : Int)).toNat, by omega⟩
  rw [hj]
  have hj2 : j < xs.length := by omega
  exact ⟨xs[j], atI_nat (by rw [List.getElem?_map, List.getElem?_eq_getElem hj2]; rfl)⟩
/-- a product of two below 2 ^ 31 -/
theorem mul31 {a b : Int} (h0 : 0 ≤ a) (h1 : a < 2147483648) (h2 : 0 ≤ b) (h3 : b < 2147600000) : 0 ≤ a * b ∧ a * b < 4611686018427387904 * 2 := by
  refine ⟨Int.mul_nonneg h0 h2, ?_⟩
  have := Int.mul_le_mul (by omega : a ≤ 2147483647) (by omega : b ≤ 2147600000) h2 (by decide)
  omega
theorem at_in {xs : List V} {i : Int} (h0 : 0 ≤ i) (h1 : i < (xs.length : Int)) : ∃ v, atI xs i = some v ∧ v ∈ xs := by
  obtain ⟨j, rfl⟩ : ∃ j : Nat, i = (j : Int) := ⟨i.toNat, by omega⟩
  have hj2 : j < xs.length := by omega
  exact ⟨xs[j], atI_nat (List.getElem?_eq_getElem hj2), List.getElem_mem hj2⟩
end Vg

set_option Elab.async false
set_option linter.all false
set_option maxRecDepth 100000
set_option maxHeartbeats 2000000
namespace Vg
open PySem PySem.Spec PyProof.Rows L2
/-! ### lists of ints as data -/
theorem dp_ints {K : PySem.W.Frag} {H : Hp} : ∀ ns : List Int, DpAll K H (ns.map V.int) (ns.map PyData.int)
  | [] => .nil
  | n :: r => .cons (.int n) (dp_ints r)
theorem lay_ints : ∀ ns : List Int, PyData.canLayAll0 (ns.map PyData.int) = true
  | [] => by simp [PyData.canLayAll0]
  | n :: r => by
    have h := lay_ints r
    simp only [List.map_cons, PyData.canLayAll0, PyData.canLay0, h, Bool.and_self]
theorem depth_ints : ∀ ns : List Int, PyData.depthAll (ns.map PyData.int) = 0
  | [] => by simp [PyData.depthAll]
  | n :: r => by
    have h := depth_ints r
    simp only [List.map_cons, PyData.depthAll, PyData.depth, h, Nat.max_self]
theorem shaped_ints (ns : List Int) : SeqAt.shaped (.list (ns.map PyData.int)) = true := by
  unfold SeqAt.shaped
  rw [show PyData.canLay0 (.list (ns.map PyData.int)) = true by simp only [PyData.canLay0]; exact lay_ints ns,
    show PyData.depth (.list (ns.map PyData.int)) = 1 by simp only [PyData.depth]; rw [depth_ints]]
  rfl
theorem eqv_nil (ns : List Int) : PyData.eqv (.list (ns.map PyData.int)) (.list []) = ns.isEmpty := by
  cases ns with
  | nil => simp [PyData.eqv, PyData.eqvAll]
  | cons n r => simp [PyData.eqv, PyData.eqvAll]
/-! ### small things -/
theorem seq_nat {i n : Nat} (h : i < n) : seqIndex? (i : Int) n = some i := by
  unfold seqIndex?
  have h1 : ¬ ((i : Int) < 0) := by omega
  simp [h1, h]
theorem map_erase (l : List Int) (i : Nat) : (l.eraseIdx i).map V.int = (l.map V.int).eraseIdx i := by
  induction l generalizing i with
  | nil => rfl
  | cons x r ih =>
    cases i with
    | zero => rfl
    | succ j => simp only [List.eraseIdx_cons_succ, List.map_cons, ih]
theorem perm_erase {l : List Int} {i : Nat} (h : i < l.length) : ([l[i]] ++ l.eraseIdx i).Perm l := by
  induction l generalizing i with
  | nil => cases h
  | cons x r ih =>
    cases i with
    | zero => exact List.Perm.refl _
    | succ j =>
      have hj : j < r.length := by simpa using h
      show (r[j] :: x :: r.eraseIdx j).Perm (x :: r)
      exact (List.Perm.swap _ _ _).trans ((ih hj).cons x)
theorem mem_cut {xs : List V} {lo hi : Option Int} {v : V} (h : v ∈ cutV xs lo hi) : v ∈ xs := by
  unfold cutV at h
  exact List.mem_of_mem_drop (List.mem_of_mem_take h)
/-- products of the primes up to 13 -/
inductive Sm : Int → Prop where
  | one : Sm 1
  | mul {m q : Int} : Sm m → q ∈ [2, 3, 5, 7, 11, 13] → Sm (m * q)
theorem p13 {q : Int} (h : q ∈ ([2, 3, 5, 7, 11, 13] : List Int)) : 2 ≤ q ∧ q ≤ 13 := by
  simp at h; omega
/-- a modulus up to most -/
def sp_modulus : Sp := fun vs H Q _ => ∃ (p L : Addr) (n : Nat) (most : Int), vs = [.ref p, .int most] ∧ PenAt H p L n ∧
  n ≤ 90000000 ∧ 2 ≤ most ∧ most ≤ 1000000000 ∧
  ∀ H' m, But p H H' → PenAt H' p L (n + 20) → 2 ≤ m → m ≤ most → Sm m → Q (.int m) H'
theorem sm2 : Sm 2 := by
  have h := Sm.mul .one (show (2 : Int) ∈ ([2, 3, 5, 7, 11, 13] : List Int) by simp)
  simpa using h
/-! ### chains: the primes taken out of a number, one after another -/
/-- q taken out of x as often as it goes; what is left, and the products on the way -/
def strip (q x last : Int) : Int × List Int :=
  if h : 0 < x ∧ 2 ≤ q ∧ x % q = 0 then
    ((strip q (x / q) (last * q)).1, (last * q) :: (strip q (x / q) (last * q)).2)
  else (x, [])
termination_by x.toNat
decreasing_by
  all_goals
    have h1 : x / q < x := Int.ediv_lt_self_of_pos_of_ne_one h.1 (by omega)
    omega
theorem strip_go {q x last : Int} (h0 : 0 < x) (h1 : 2 ≤ q) (h2 : x % q = 0) :
    strip q x last = ((strip q (x / q) (last * q)).1, (last * q) :: (strip q (x / q) (last * q)).2) := by
  rw [strip, dif_pos ⟨h0, h1, h2⟩]
theorem strip_end {q x last : Int} (h2 : ¬ x % q = 0) : strip q x last = (x, []) := by
  rw [strip, dif_neg (fun z => h2 z.2.2)]
/-- a turn: x is q times its quotient -/
theorem div_turn {q x : Int} (h0 : 0 < x) (h1 : 2 ≤ q) (h2 : x % q = 0) : q * (x / q) = x ∧ 0 < x / q := by
  have e : q * (x / q) = x := Int.mul_ediv_cancel' (Int.dvd_of_emod_eq_zero h2)
  refine ⟨e, ?_⟩
  rcases Int.lt_or_le 0 (x / q) with h | h
  · exact h
  · have := Int.mul_nonneg (show 0 ≤ q by omega) (show 0 ≤ -(x / q) by omega)
    rw [Int.mul_neg] at this
    omega
/-- the primes of a list one after another -/
def goAll : List Int → Int → Int → Int × List Int
  | [], x, _ => (x, [])
  | q :: qs, x, last =>
    ((goAll qs (strip q x last).1 ((strip q x last).2.getLastD last)).1,
      (strip q x last).2 ++ (goAll qs (strip q x last).1 ((strip q x last).2.getLastD last)).2)
def P6 : List Int := [2, 3, 5, 7, 11, 13]
def chainL (m : Int) : List Int := 1 :: (goAll P6 m 1).2
def isModI (n : Int) : Bool := decide (2 ≤ n) && decide (n ≤ 1000000000) && decide ((goAll P6 n 1).1 = 1)
def isModV : V → Bool
  | .int n => isModI n
  | _ => false
/-- what is left hangs on x alone -/
theorem strip_fst (q : Int) : ∀ (k : Nat) (x a b : Int), x.toNat ≤ k → (strip q x a).1 = (strip q x b).1 := by
  intro k
  induction k with
  | zero =>
    intro x a b h
    rw [strip, dif_neg (fun z => by have := z.1; omega), strip, dif_neg (fun z => by have := z.1; omega)]
  | succ k ih =>
    intro x a b h
    by_cases c : 0 < x ∧ 2 ≤ q ∧ x % q = 0
    · rw [strip_go c.1 c.2.1 c.2.2, strip_go c.1 c.2.1 c.2.2]
      refine ih _ _ _ ?_
      have h1 : x / q < x := Int.ediv_lt_self_of_pos_of_ne_one c.1 (by omega)
      omega
    · rw [strip, dif_neg c, strip, dif_neg c]
theorem goAll_fst : ∀ (qs : List Int) (x a b : Int), (goAll qs x a).1 = (goAll qs x b).1
  | [], _, _, _ => rfl
  | q :: qs, x, a, b => by
    show (goAll qs (strip q x a).1 _).1 = (goAll qs (strip q x b).1 _).1
    rw [strip_fst q x.toNat x a b (Nat.le_refl _)]
    exact goAll_fst qs _ _ _
/-- a state on the way: the list that is kept, what is left; the end is known -/
structure Way (m : Int) (qs : List Int) (pre : List Int) (x : Int) : Prop where
  last : ∃ ini last, pre = ini ++ [last] ∧ last * x = m ∧ 2 ^ ini.length ≤ last.toNat ∧ 1 ≤ last
  pos : 0 < x
  ends : ∀ ini last, pre = ini ++ [last] → chainL m = pre ++ (goAll qs x last).2 ∧ (goAll P6 m 1).1 = (goAll qs x last).1
  low : ∀ ini last, pre = ini ++ [last] → ∀ z ∈ ini, 1 ≤ z ∧ z ≤ last
/-- within a prime's turns -/
structure WayQ (m q : Int) (qs : List Int) (pre : List Int) (x : Int) : Prop where
  last : ∃ ini last, pre = ini ++ [last] ∧ last * x = m ∧ 2 ^ ini.length ≤ last.toNat ∧ 1 ≤ last
  pos : 0 < x
  ends : ∀ ini last, pre = ini ++ [last] → chainL m = pre ++ (goAll (q :: qs) x last).2 ∧ (goAll P6 m 1).1 = (goAll (q :: qs) x last).1
  low : ∀ ini last, pre = ini ++ [last] → ∀ z ∈ ini, 1 ≤ z ∧ z ≤ last
theorem Way.start {m : Int} (h : 1 ≤ m) : Way m P6 [1] m := by
  refine ⟨⟨[], 1, rfl, by omega, by decide, by decide⟩, by omega, ?_, ?_⟩
  · intro ini last e
    cases ini with
    | nil => cases e; exact ⟨rfl, rfl⟩
    | cons a r => simp at e
  · intro ini last e z hz
    cases ini with
    | nil => cases hz
    | cons a r => simp at e
theorem Way.q {m q : Int} {qs pre : List Int} {x : Int} (w : Way m (q :: qs) pre x) : WayQ m q qs pre x := ⟨w.last, w.pos, w.ends, w.low⟩
theorem app_last {ini : List Int} {a : Int} {pre : List Int} {ini' : List Int} {b : Int} (e : pre = ini ++ [a]) (e' : pre = ini' ++ [b]) : ini = ini' ∧ a = b := by
  rw [e] at e'
  have := List.append_inj' e' rfl
  exact ⟨this.1, by simpa using this.2⟩
theorem WayQ.turn {m q : Int} {qs pre : List Int} {x last : Int} {ini : List Int} (w : WayQ m q qs pre x) (e : pre = ini ++ [last]) (hq : 2 ≤ q) (h : x % q = 0) :
    WayQ m q qs (pre ++ [last * q]) (x / q) := by
  obtain ⟨ini', last', e', h1, h2, h3⟩ := w.last
  obtain ⟨rfl, rfl⟩ := app_last e e'
  obtain ⟨d1, d2⟩ := div_turn w.pos hq h
  have hl : 2 * last ≤ last * q := by
    have := Int.mul_le_mul_of_nonneg_left hq (show 0 ≤ last by omega)
    omega
  refine ⟨⟨ini ++ [last], last * q, by rw [e], ?_, ?_, by omega⟩, d2, ?_, ?_⟩
  · rw [Int.mul_assoc, d1, h1]
  · rw [List.length_append, List.length_singleton, Nat.pow_succ]
    omega
  · intro ini2 last2 e2
    have := app_last (a := last * q) (ini := pre) rfl e2
    obtain ⟨rfl, rfl⟩ := this
    obtain ⟨k1, k2⟩ := w.ends ini last e
    rw [k1, k2]
    have g := strip_go (last := last) w.pos hq h
    have gl : (strip q x last).2.getLastD last = (strip q (x / q) (last * q)).2.getLastD (last * q) := by
      rw [g]
      cases (strip q (x / q) (last * q)).2 <;> rfl
    constructor
    · show pre ++ ((strip q x last).2 ++ (goAll qs (strip q x last).1 ((strip q x last).2.getLastD last)).2) =
        pre ++ [last * q] ++ ((strip q (x / q) (last * q)).2 ++ (goAll qs (strip q (x / q) (last * q)).1 ((strip q (x / q) (last * q)).2.getLastD (last * q))).2)
      rw [gl, g]
      simp
    · show (goAll qs (strip q x last).1 ((strip q x last).2.getLastD last)).1 =
        (goAll qs (strip q (x / q) (last * q)).1 ((strip q (x / q) (last * q)).2.getLastD (last * q))).1
      rw [gl, g]
  · intro ini2 last2 e2 z hz
    have := app_last (a := last * q) (ini := pre) rfl e2
    obtain ⟨rfl, rfl⟩ := this
    rw [e] at hz
    rcases List.mem_append.mp hz with hz | hz
    · have := w.low ini last e z hz
      omega
    · have := List.mem_singleton.mp hz
      omega
theorem WayQ.out {m q : Int} {qs pre : List Int} {x : Int} (w : WayQ m q qs pre x) (h : ¬ x % q = 0) : Way m qs pre x := by
  refine ⟨w.last, w.pos, ?_, w.low⟩
  intro ini last e
  obtain ⟨k1, k2⟩ := w.ends ini last e
  rw [k1, k2]
  have g := strip_end (last := last) h
  constructor
  · show pre ++ ((strip q x last).2 ++ (goAll qs (strip q x last).1 ((strip q x last).2.getLastD last)).2) = _
    rw [g]; rfl
  · show (goAll qs (strip q x last).1 ((strip q x last).2.getLastD last)).1 = _
    rw [g]; rfl
theorem Way.done {m : Int} {pre : List Int} {x : Int} (w : Way m [] pre x) : chainL m = pre ∧ (goAll P6 m 1).1 = x := by
  obtain ⟨ini, last, e, _⟩ := w.last
  obtain ⟨k1, k2⟩ := w.ends ini last e
  exact ⟨by rw [k1]; simp [goAll], k2⟩
/-- the list stays short -/
theorem short_way {m x last : Int} {ini : List Int} (h1 : last * x = m) (h2 : 2 ^ ini.length ≤ last.toNat) (hx : 0 < x) (hl : 1 ≤ last) (hm : m ≤ 1000000000) : ini.length ≤ 30 ∧ last ≤ 1000000000 := by
  have hlm : last ≤ m := by
    have := Int.mul_le_mul_of_nonneg_left (show 1 ≤ x by omega) (show 0 ≤ last by omega)
    omega
  refine ⟨?_, by omega⟩
  rcases Nat.lt_or_ge 30 ini.length with h | h
  · have h3 : 2 ^ 31 ≤ 2 ^ ini.length := Nat.pow_le_pow_right (by decide) h
    have h4 : (2 : Nat) ^ 31 = 2147483648 := by decide
    omega
  · exact h
theorem map_snoc (l : List Int) (a : Int) : (l ++ [a]).map V.int = l.map V.int ++ [.int a] := by
  rw [List.map_append]; rfl
theorem pe_globR {X : Cx} {x : Str} {pos : Pos} {a : Addr} (hg : Gl X x) (h : X.mg x = some (.ref a))
    (hdb : (x == ("__debug__" : Str)) = false := by decide) : PE X (.Name x pos) (tC (.ref a)) :=
  pe_glob hg h (show RelV (.ref a) _ from rfl) hdb
theorem WayQ.all {m q : Int} {qs : List Int} (hq : 2 ≤ q) : ∀ (k : Nat) (pre : List Int) (x : Int), x.toNat ≤ k → WayQ m q qs pre x → ∃ pre' x', Way m qs pre' x' := by
  intro k
  induction k with
  | zero => intro pre x h w; have := w.pos; omega
  | succ k ih =>
    intro pre x h w
    by_cases c : x % q = 0
    · obtain ⟨ini, last, e, _⟩ := w.last
      have h1 : x / q < x := Int.ediv_lt_self_of_pos_of_ne_one w.pos (by omega)
      exact ih _ _ (by omega) (w.turn e hq c)
    · exact ⟨pre, x, w.out c⟩
theorem Way.all {m : Int} : ∀ (qs : List Int) (pre : List Int) (x : Int), (∀ q ∈ qs, 2 ≤ q) → Way m qs pre x → ∃ pre' x', Way m [] pre' x'
  | [], pre, x, _, w => ⟨pre, x, w⟩
  | q :: qs, pre, x, hq, w => by
    obtain ⟨pre', x', w'⟩ := WayQ.all (hq q (List.mem_cons_self ..)) _ pre x (Nat.le_refl _) w.q
    exact Way.all qs pre' x' (fun z hz => hq z (List.mem_cons_of_mem _ hz)) w'
theorem chain_last {m : Int} (h : 1 ≤ m) : ∃ ini last, chainL m = ini ++ [last] ∧ last * (goAll P6 m 1).1 = m ∧ 1 ≤ last ∧ 0 < (goAll P6 m 1).1 := by
  obtain ⟨pre, x, w⟩ := Way.all P6 [1] m (by intro q hq; have := p13 (q := q) hq; omega) (Way.start h)
  obtain ⟨d1, d2⟩ := w.done
  obtain ⟨ini, last, e, h1, _, h3⟩ := w.last
  exact ⟨ini, last, by rw [d1, e], by rw [d2]; exact h1, h3, by rw [d2]; exact w.pos⟩
/-! ### whole numbers among values -/
def isI : V → Bool
  | .int _ => true
  | _ => false
/-- what isinstance tells of a value, for int and for bool -/
def Kd (K : PySem.W.Frag) (H : Hp) (x : V) : Prop := ∃ (t : Value) (bi bb : Bool), TyX K H x t ∧
  PySem.W.kitOne K t (.type "int") = some bi ∧ PySem.W.kitOne K t (.type "bool") = some bb ∧ (bi && !bb) = isI x
section
variable {K : PySem.W.Frag} {H H' : Hp}
theorem kd_int (i : Int) : Kd K H (.int i) := ⟨_, true, false, .base (.int i), kit_ty (by decide +kernel), kit_ty (by decide +kernel), rfl⟩
theorem kd_bl (b : Bool) : Kd K H (.bl b) := ⟨_, true, true, .base (.bl b), kit_ty (by decide +kernel), kit_ty (by decide +kernel), rfl⟩
theorem kd_non : Kd K H .non := ⟨_, false, false, .base .non, kit_ty (by decide +kernel), kit_ty (by decide +kernel), rfl⟩
theorem kd_str (x : Str) : Kd K H (.str x) := ⟨_, false, false, .base (.str x), kit_ty (by decide +kernel), kit_ty (by decide +kernel), rfl⟩
theorem kd_lst {a : Addr} {xs : List V} (h : H a = some (.lst xs)) : Kd K H (.ref a) := ⟨_, false, false, .base (.lst h), kit_ty (by decide +kernel), kit_ty (by decide +kernel), rfl⟩
theorem kd_tup {a : Addr} {xs : List V} (h : H a = some (.tup xs)) : Kd K H (.ref a) := ⟨_, false, false, .base (.tup h), kit_ty (by decide +kernel), kit_ty (by decide +kernel), rfl⟩
theorem kd_dK {a : Addr} {xs : List (Key × V)} (h : H a = some (.dK xs)) : Kd K H (.ref a) := ⟨_, false, false, .base (.dK h), kit_ty (by decide +kernel), kit_ty (by decide +kernel), rfl⟩
end
def betw (x : V) (lo hi : Int) : Bool := match x with
  | .int n => decide (lo ≤ n) && decide (n ≤ hi)
  | _ => false
def sp_whole (K : PySem.W.Frag) : Sp := fun vs H Q _ => ∃ x, vs = [x] ∧ Kd K H x ∧ Q (.bl (isI x)) H
def sp_between (K : PySem.W.Frag) : Sp := fun vs H Q _ => ∃ x lo hi, vs = [x, .int lo, .int hi] ∧ Kd K H x ∧ Q (.bl (betw x lo hi)) H
def sp_ismod (K : PySem.W.Frag) : Sp := fun vs H Q _ => ∃ x, vs = [x] ∧ Kd K H x ∧ ∀ H', Same H H' → Q (.bl (isModV x)) H'
theorem pe_ty {X : Cx} {x : Str} {pos : Pos} {n : String} (hg : Gl X x) (hm : X.mg x = none)
    (hv : bootBuiltins x = some (.type n)) (hn : x ≠ "__name__" := by decide)
    (hd : (x == ("__debug__" : Str)) = false := by decide) : PE X (.Name x pos) (tC (.ty n)) :=
  pe_bltn hg hm hv (show RelV (.ty n) _ from rfl) hn hd
/-- a chain's numbers are few and no greater than m -/
theorem chain_small {m : Int} (h : 1 ≤ m) (h9 : m ≤ 1000000000) : (chainL m).length ≤ 40 ∧ ∀ z ∈ chainL m, 1 ≤ z ∧ z ≤ 1000000000 := by
  obtain ⟨pre, x, w⟩ := Way.all P6 [1] m (by intro q hq; have := p13 (q := q) hq; omega) (Way.start h)
  obtain ⟨d1, d2⟩ := w.done
  obtain ⟨ini, last, e, h1, h2, h3⟩ := w.last
  have sh := short_way h1 h2 w.pos h3 h9
  rw [d1, e]
  refine ⟨by rw [List.length_append, List.length_singleton]; omega, ?_⟩
  intro z hz
  rcases List.mem_append.mp hz with hz | hz
  · have := w.low ini last e z hz
    omega
  · have := List.mem_singleton.mp hz
    omega
/-! ### what repr asks of ints, bools -/
theorem show_ints : ∀ (ns : List Int), (∀ z ∈ ns, z.natAbs < 1000000000000) → PyData.showableAll (ns.map PyData.int) = true
  | [], _ => by simp [PyData.showableAll]
  | n :: r, h => by
    have h1 := show_ints r (fun z hz => h z (List.mem_cons_of_mem _ hz))
    have h2 : n.natAbs < 2 ^ 64 := Nat.lt_of_lt_of_le (h n (List.mem_cons_self ..)) (by decide)
    have h3 : n.natAbs.log2 < 1920 := Nat.lt_of_lt_of_le (PySem.Flt.log2_lt_of (by decide) h2) (by decide)
    simp only [List.map_cons, PyData.showableAll, PyData.showable, h1, Bool.and_true]
    exact decide_eq_true h3
theorem int_short {n : Int} (h : n.natAbs < 1000000000000) : (PyData.int n).leavesShort 13 = true := by
  have e : (PyData.shown (.int n)).length ≤ 13 := by
    have e1 := int_text_length_le10 (a := n) (k := 12) (by decide) (Nat.lt_of_lt_of_le h (by decide))
    show (Str.ofString (toString n)).length ≤ 13
    rw [PySem.ofString_length]
    omega
  simp only [PyData.leavesShort]
  exact decide_eq_true e
theorem short_ints : ∀ (ns : List Int), (∀ z ∈ ns, z.natAbs < 1000000000000) → PyData.leavesShortAll 13 (ns.map PyData.int) = true
  | [], _ => by simp [PyData.leavesShortAll]
  | n :: r, h => by
    have h1 := short_ints r (fun z hz => h z (List.mem_cons_of_mem _ hz))
    have h2 := int_short (h n (List.mem_cons_self ..))
    simp only [List.map_cons, PyData.leavesShortAll, h1, h2, Bool.and_true]
theorem bulk_ints : ∀ (ns : List Int), PyData.bulkAll (ns.map PyData.int) = ns.length
  | [] => by simp [PyData.bulkAll]
  | n :: r => by
    have h1 := bulk_ints r
    simp only [List.map_cons, PyData.bulkAll, PyData.bulk, h1, List.length_cons]
    omega
/-- what repr asks of a value -/
structure Rp (K : PySem.W.Frag) (H : Hp) (v : V) (d : PyData) : Prop where
  dp : Dp K H v d
  sh : d.showable = true
  de : d.depth ≤ 60
  le : d.shown.length ≤ sizeLine
theorem rp_ints {K : PySem.W.Frag} {H : Hp} {a : Addr} {ns : List Int} (h : SqL K H a (ns.map V.int)) (hn : ∀ z ∈ ns, z.natAbs < 1000000000000)
    (hl : ns.length ≤ 100000) : Rp K H (.ref a) (.list (ns.map PyData.int)) := by
  refine ⟨Dp.lst h (dp_ints ns), ?_, ?_, ?_⟩
  · simp only [PyData.showable]; exact show_ints ns hn
  · simp only [PyData.depth]; rw [depth_ints]; decide
  · refine PyData.shown_fits_bulk (B := 13) (by decide) (by decide) ?_ ?_
    · simp only [PyData.leavesShort]; exact short_ints ns hn
    · simp only [PyData.bulk]; rw [bulk_ints]; exact Nat.le_trans hl (by decide)
theorem rp_bool {K : PySem.W.Frag} {H : Hp} (b : Bool) : Rp K H (.bl b) (.bool b) := by
  refine ⟨Dp.bl b, by simp only [PyData.showable], by simp [PyData.depth], ?_⟩
  cases b <;> decide
theorem pick3 {v a b c : V} {Q : Prop} (h : v ∈ [a, b, c]) (h1 : v = a → Q) (h2 : v = b → Q) (h3 : v = c → Q) : Q := by
  simp only [List.mem_cons, List.mem_nil_iff, or_false] at h
  rcases h with h | h | h
  · exact h1 h
  · exact h2 h
  · exact h3 h
/-- its kind is known in each later heap -/
def Ks (K : PySem.W.Frag) (H0 : Hp) (v : V) : Prop := ∀ H', Same H0 H' → Kd K H' v
section
variable {K : PySem.W.Frag} {H0 : Hp}
theorem ks_nil : ∀ v ∈ ([] : List V), Ks K H0 v := fun _ h => by cases h
theorem ks_cons {v : V} {vs : List V} (h : Ks K H0 v) (r : ∀ x ∈ vs, Ks K H0 x) : ∀ x ∈ v :: vs, Ks K H0 x := fun x hx => by
  rcases List.mem_cons.mp hx with e | e
  · rw [e]; exact h
  · exact r x e
theorem ks_app {vs ws : List V} (h : ∀ x ∈ vs, Ks K H0 x) (r : ∀ x ∈ ws, Ks K H0 x) : ∀ x ∈ vs ++ ws, Ks K H0 x := fun x hx => by
  rcases List.mem_append.mp hx with e | e
  · exact h x e
  · exact r x e
theorem ks_int (i : Int) : Ks K H0 (.int i) := fun _ _ => kd_int i
theorem ks_bl (b : Bool) : Ks K H0 (.bl b) := fun _ _ => kd_bl b
theorem ks_non : Ks K H0 .non := fun _ _ => kd_non
theorem ks_str (x : Str) : Ks K H0 (.str x) := fun _ _ => kd_str x
theorem ks_lst {a : Addr} {xs : List V} (h : H0 a = some (.lst xs)) : Ks K H0 (.ref a) := fun _ s => kd_lst (s _ _ h)
theorem ks_tup {a : Addr} {xs : List V} (h : H0 a = some (.tup xs)) : Ks K H0 (.ref a) := fun _ s => kd_tup (s _ _ h)
theorem ks_dK {a : Addr} {xs : List (Key × V)} (h : H0 a = some (.dK xs)) : Ks K H0 (.ref a) := fun _ s => kd_dK (s _ _ h)
end
end Vg

set_option Elab.async false
set_option linter.all false
set_option maxRecDepth 100000
set_option maxHeartbeats 2000000
namespace Vg
open PySem PySem.Spec PyProof.Rows L2
def top (i : Nat) : Stmt := PySem.Challenge.pw_affinewalk_k01_moduli_and_chains.main.body.getD i (.Pass ⟨0, 0, 0, 0⟩)
abbrev s_is_whole : Stmt := top 2
theorem sc_is_whole : FnScope ["value"] ["value"] (defScope s_is_whole) := ⟨rfl, rfl, rfl, by decide +kernel, rfl, by decide +kernel, by decide +kernel⟩
abbrev s_is_between : Stmt := top 3
theorem sc_is_between : FnScope ["value", "low", "high"] ["value", "low", "high"] (defScope s_is_between) := ⟨rfl, rfl, rfl, by decide +kernel, rfl, by decide +kernel, by decide +kernel⟩
abbrev s_is_modulus : Stmt := top 6
theorem sc_is_modulus : FnScope ["value"] ["value"] (defScope s_is_modulus) := ⟨rfl, rfl, rfl, by decide +kernel, rfl, by decide +kernel, by decide +kernel⟩
abbrev s_chain : Stmt := top 7
theorem sc_chain : FnScope ["m", "divisors", "left", "prime"] ["m"] (defScope s_chain) := ⟨rfl, rfl, rfl, by decide +kernel, rfl, by decide +kernel, by decide +kernel⟩
abbrev s__law_pen : Stmt := top 9
theorem sc__law_pen : FnScope ["script"] ["script"] (defScope s__law_pen) := ⟨rfl, rfl, rfl, by decide +kernel, rfl, by decide +kernel, by decide +kernel⟩
abbrev s__law_draw : Stmt := top 10
theorem sc__law_draw : FnScope ["pen", "many", "digit", "turn", "cell", "primes", "prime", "drawn"] ["pen", "many"] (defScope s__law_draw) := ⟨rfl, rfl, rfl, by decide +kernel, rfl, by decide +kernel, by decide +kernel⟩
abbrev s__law_pick : Stmt := top 11
theorem sc__law_pick : FnScope ["pen", "some"] ["pen", "some"] (defScope s__law_pick) := ⟨rfl, rfl, rfl, by decide +kernel, rfl, by decide +kernel, by decide +kernel⟩
abbrev s__law_shuffled : Stmt := top 12
theorem sc__law_shuffled : FnScope ["pen", "some", "left", "found"] ["pen", "some"] (defScope s__law_shuffled) := ⟨rfl, rfl, rfl, by decide +kernel, rfl, by decide +kernel, by decide +kernel⟩
abbrev s__law_modulus : Stmt := top 13
theorem sc__law_modulus : FnScope ["pen", "most", "found", "primes", "k", "prime"] ["pen", "most"] (defScope s__law_modulus) := ⟨rfl, rfl, rfl, by decide +kernel, rfl, by decide +kernel, by decide +kernel⟩
abbrev s__law_chain : Stmt := top 14
theorem sc__law_chain : FnScope ["m", "found", "prime"] ["m"] (defScope s__law_chain) := ⟨rfl, rfl, rfl, by decide +kernel, rfl, by decide +kernel, by decide +kernel⟩
abbrev s__law_is_modulus : Stmt := top 15
theorem sc__law_is_modulus : FnScope ["value", "prime"] ["value"] (defScope s__law_is_modulus) := ⟨rfl, rfl, rfl, by decide +kernel, rfl, by decide +kernel, by decide +kernel⟩
abbrev s_law : Stmt := top 16
theorem sc_law : FnScope ["script", "pen", "bout", "m", "turn", "told", "some", "value"] ["script"] (defScope s_law) := ⟨rfl, rfl, rfl, by decide +kernel, rfl, by decide +kernel, by decide +kernel⟩
-- a ≠ b; a place of a heap; what is kept
local macro_rules | `(tactic| walk_at "nq") => `(tactic| with_reducible first
  | assumption
  | (apply Ne.symm; assumption))
local macro_rules | `(tactic| walk_at "hp") => `(tactic| with_reducible first
  | assumption
  | exact upd_same
  | (refine Eq.trans (upd_ne ?_) ?_; (with_reducible walk_at "nq"); (with_reducible walk_at "hp")))
local macro_rules | `(tactic| walk_at "sm") => `(tactic| with_reducible first
  | assumption
  | exact Same.refl _
  | exact But.refl _ _
  | (refine sm_nw ?_ ?_; rotate_left; (with_reducible assumption); walk_at "sm")
  | (refine But.nw ?_ ?_; rotate_left; (with_reducible assumption); walk_at "sm")
  | (refine sm_own ?_ ?_; rotate_left; (with_reducible assumption); walk_at "sm")
  | (refine But.own ?_ ?_; rotate_left; (with_reducible assumption); walk_at "sm")
  | (refine But.wr ?_; walk_at "sm"))

structure Txt (K : PySem.W.Frag) (mg : Str → Option Value) : Prop where
  f_len : mg "len" = none
  f_abs : mg "abs" = none
  f_list : mg "list" = none
  f_range : mg "range" = none
  f_min : mg "min" = none
  f_isinstance : mg "isinstance" = none
  f_int : mg "int" = none
  f_bool : mg "bool" = none
  f_repr : mg "repr" = none
  g_MAX_MODULUS : ∃ t, mg "MAX_MODULUS" = some (.int 1000000000 t)
  g_PRIMES : mg "PRIMES" = some (.ref (He.ga K "PRIMES"))
  primes : ∀ H, SqT K H (He.ga K "PRIMES") [.int 2, .int 3, .int 5, .int 7, .int 11, .int 13]
section
variable {P : Program} {w : World} {K : PySem.W.Frag} {mg : Str → Option Value} {base : Heap}
theorem c_pen (D : DefAt K mg "_law_pen" s__law_pen) (T : Txt K mg) :
    Cal P w K mg base 1 "_law_pen" ["script"] (sp_pen K) := by
  refine cal_mk D sc__law_pen (fun _ _ _ _ _ _ _ us hl => match us, hl with | [_], _ => rfl)
    (fun vs H Q E h => ?_) (fun f cdv A outer s H vs Q hgu hr h => ?_)
  · obtain ⟨a, ns, rfl, _⟩ := h; rfl
  · obtain ⟨a, ns, rfl, hS, hl, k⟩ := h
    have hu := hu_of hr
    refine ⟨_,
      (pss_one (ps_ret (pe_disp (pps_cons pe_str (pe_callTy call_list_of (by rfl) T.f_list (by decide +kernel) (pa_cons (pe_slice sl_list (pv 0) po_none (po_some pe_int)) pa_nil)) (pps_cons pe_str pe_int (pps_cons pe_str pe_int pps_nil))) (by rfl) (by rfl) (fun z => by cases z) (by decide))))
      , ?_⟩
    intro p hp
    refine ⟨_, rfl, _, rfl, a, _, rfl, (sm_new hp).seq hS, fun q hq => ?_⟩
    refine ⟨q, _, rfl, .inl (SqL.of upd_same), fun l hlf => ?_⟩
    have Hl : H l = none := ((sm_new hq).trans (Same.refl _) |> fun z => (sm_new hp).trans z).free hlf
    have npq : p ≠ q := ne_of_none upd_same hq
    have nql : q ≠ l := ne_of_none upd_same hlf
    have npl : p ≠ l := ne_of_none (o := .dK []) (by walk_at "hp") hlf
    refine ⟨by walk_at "hp", penD l 0 0, rfl, (by show 3 ≤ 15; decide), ?_⟩
    refine k _ p l ?_ hp Hl ⟨ns.take 63, 0, 0, ?_, ?_, by rw [List.length_take]; omega, Int.le_refl _, Int.le_refl _, Int.le_refl _⟩
    · walk_at "sm"
    · rw [upd_same, pen_merge]
    · rw [upd_ne (by walk_at "nq"), upd_same, cut_take]
theorem c_draw (D : DefAt K mg "_law_draw" s__law_draw) (T : Txt K mg) :
    Cal P w K mg base 1 "_law_draw" ["pen", "many"] sp_draw := by
  refine cal_mk D sc__law_draw (fun _ _ _ _ _ _ _ us hl => match us, hl with | [_, _], _ => rfl)
    (fun vs H Q E h => ?_) (fun f cdv A outer s H vs Q hgu hr h => ?_)
  · obtain ⟨p, L, n, many, rfl, _⟩ := h; rfl
  · obtain ⟨p, L, n, many, rfl, hp, hn, h0, h1, k⟩ := h
    have hu := hu_of hr
    refine ⟨_,
      (pss_cons (ps_if (pt_cmpR op_gt (pe_dget hu (pv 0) pe_str (fun _ _ => rfl)) pe_int (nomark _)) (pss_cons (ps_set (i := 2) sc__law_draw.nd rfl (Or.inl rfl) (pe_op op_modN (pe_dget hu (pv 0) pe_str (fun _ _ => rfl)) (pv 1)))
        (pss_cons (ps_dput hu (pv 0) pe_str (pe_op op_fdivW (pe_dget hu (pv 0) pe_str (fun _ _ => rfl)) (pv 1)) rfl)
        (pss_one (ps_ret (pv 2))))) pss_nil)
      (pss_cons (ps_set (i := 3) sc__law_draw.nd rfl (Or.inl rfl) (pe_dget hu (pv 0) pe_str (fun _ _ => rfl)))
      (pss_cons (ps_dput hu (pv 0) pe_str (pe_op op_add (pv 3) pe_int) rfl)
      (pss_cons (ps_set (i := 4) sc__law_draw.nd rfl (Or.inl rfl) (pe_op op_add (pe_op op_mul pe_int (pv 3)) pe_int))
      (pss_cons (ps_if (pt_cmpR (op_neD hr.units) (pe_dget hu (pv 0) pe_str (fun _ _ => rfl)) (pe_lst pa_nil) (nomark _)) (pss_one (ps_set (i := 4) sc__law_draw.nd rfl (Or.inl rfl) (pe_ix ix_list (pe_dget hu (pv 0) pe_str (fun _ _ => rfl)) (pe_op op_modN (pv 3) (pe_callB call_len_seq (by rfl) T.f_len (by decide +kernel) (pa_cons (pe_dget hu (pv 0) pe_str (fun _ _ => rfl)) pa_nil))) (fun _ _ => rfl)))) pss_nil)
      (pss_cons (ps_if (PW.pt (pw_and (pt_cmpR op_lt (pv 3) (pe_callB call_len_seq (by rfl) T.f_len (by decide +kernel) (pa_cons (pe_dget hu (pv 0) pe_str (fun _ _ => rfl)) pa_nil)) (nomark _)) (pw_and1 (pt_cmpR op_ge (pe_callB call_abs (by rfl) T.f_abs (by decide +kernel) (pa_cons (pv 4) pa_nil)) (pe_op op_pow pe_int pe_int) (nomark _))))) (pss_cons (ps_dput hu (pv 0) pe_str (pe_op op_fdivW (pe_op op_sub (pe_callB call_abs (by rfl) T.f_abs (by decide +kernel) (pa_cons (pv 4) pa_nil)) (pe_op op_pow pe_int pe_int)) (pv 1)) rfl)
        (pss_one (ps_ret (pe_op op_modN (pe_op op_sub (pe_callB call_abs (by rfl) T.f_abs (by decide +kernel) (pa_cons (pv 4) pa_nil)) (pe_op op_pow pe_int pe_int)) (pv 1))))) pss_nil)
      (pss_cons (ps_set (i := 5) sc__law_draw.nd rfl (Or.inl rfl) (pe_lst (pa_cons pe_int (pa_cons pe_int (pa_cons pe_int (pa_cons pe_int (pa_cons pe_int pa_nil)))))))
      (pss_cons (ps_set (i := 6) sc__law_draw.nd rfl (Or.inl rfl) (pe_ix ix_list (pv 5) (pe_op op_modN (pv 3) pe_int) (fun _ _ => rfl)))
      (pss_cons (ps_set (i := 7) sc__law_draw.nd rfl (Or.inl rfl) (pe_op op_modN (pe_op op_add (pe_op op_add (pe_op op_mul (pe_op op_modN (pv 4) (pv 6)) pe_int) (pe_op op_mul (pe_op op_mul pe_int (pv 3)) (pv 3))) pe_int) (pv 6)))
      (pss_cons (ps_set (i := 7) sc__law_draw.nd rfl (Or.inl rfl) (pe_op op_modN (pe_op op_mul (pv 7) (pe_op op_add (pv 7) pe_int)) (pe_ix ix_list (pv 5) (pe_op op_modN (pe_op op_add (pv 3) pe_int) pe_int) (fun _ _ => rfl))))
      (pss_one (ps_ret (pe_op op_modN (pe_op op_fdivN (pe_op op_modN (pe_op op_mul (pv 7) (pv 7)) pe_int) pe_int) (pv 1))))))))))))))
      , ?_⟩
    obtain ⟨cs, t, r, e1, e2, e3, e4, e5, e6⟩ := hp
    have nLp : L ≠ p := ne_dl e2 e1
    have gR := DGet.k (k := Sum.inr "rest") e1
    have gT := DGet.k (k := Sum.inr "turn") e1
    have gC := DGet.k (k := Sum.inr "cells") e1
    rw [pen_rest] at gR
    rw [pen_turn] at gT
    rw [pen_cells] at gC
    refine ⟨_, rfl, p, _, rfl, gR, _, _, rfl, rfl, _, rfl, ite2 (fun c => ?_) (fun c => ?_)⟩
    · -- the next digit of a large cell
      refine ⟨_, rfl, p, _, rfl, gR, _, rfl, _, _, rfl, rfl, (by show many ≠ 0; omega), ?_⟩
      refine ⟨_, rfl, p, _, rfl, gR, _, rfl, _, _, rfl, rfl, ⟨h0, h1⟩, _, rfl, p, _, rfl, DPut.k (k := Sum.inr "rest") e1 (by show 3 < sizeLine; decide), _, rfl, ?_⟩
      rw [pen_putR]
      have b := fmod_b (a := r) h0
      exact k _ _ (But.refl _ _).wr ⟨cs, t, r / many, upd_same, by rw [upd_ne nLp]; exact e2, e3, e4, by omega, Int.ediv_nonneg e6 (by omega)⟩ b.1 b.2
    · -- a new cell
      refine ⟨_, rfl, p, _, rfl, gT, ?_⟩
      refine ⟨_, rfl, _, _, rfl, rfl, _, rfl, p, _, rfl, DPut.k (k := Sum.inr "turn") e1 (by show 3 < sizeLine; decide), ?_⟩
      rw [pen_putT]
      generalize hH1 : upd H p (.dK (penD L (t + 1) r)) = H1
      have b1 : But p H H1 := by rw [← hH1]; exact (But.refl _ _).wr
      have f1 : H1 p = some (.dK (penD L (t + 1) r)) := by rw [← hH1]; exact upd_same
      have f2 : H1 L = some (.lst (cs.map V.int)) := by rw [← hH1, upd_ne nLp]; exact e2
      clear hH1
      have gC := DGet.k (k := Sum.inr "cells") f1
      rw [pen_cells] at gC
      refine ⟨_, rfl, _, _, rfl, rfl, (by constructor <;> decide), _, _, rfl, rfl, ?_⟩
      -- cell
      have cpow : CPow 10 18 := ⟨by decide, by decide, by decide⟩
      have hmany : many ≠ 0 := by omega
      have h5 : (5 : Int) ≠ 0 := by decide
      have h49 : (2147483549 : Int) ≠ 0 := by decide
      refine ⟨_, rfl, p, _, rfl, gC, Nat.zero_le _, fun q hq => ?_⟩
      have npq : p ≠ q := ne_of_none f1 hq
      have nLq : L ≠ q := ne_of_none f2 hq
      refine ⟨.list (cs.map PyData.int), .list [], Dp.lst (SqL.of (by walk_at "hp")) (dp_ints cs), Dp.lst (SqL.of upd_same) .nil, shaped_ints cs, rfl, _, rfl, ?_⟩
      rw [eqv_nil]
      have b2 : But p H (upd H1 q (.lst [])) := by walk_at "sm"
      have g1 : (upd H1 q (.lst [])) p = some (.dK (penD L (t + 1) r)) := by walk_at "hp"
      have g2 : (upd H1 q (.lst [])) L = some (.lst (cs.map V.int)) := by walk_at "hp"
      generalize upd H1 q (.lst []) = H2 at b2 g1 g2 ⊢
      have gC2 := DGet.k (k := Sum.inr "cells") g1
      rw [pen_cells] at gC2
      have nLp2 : L ≠ p := nLp
      clear hq b1 f1 f2 gC gR gT
      refine ite2 (fun c1 => ?_) (fun c1 => ?_)
      · have hpos : 0 < cs.length := by
          cases cs with
          | nil => cases c1
          | cons a b => simp
        obtain ⟨v, hv⟩ := at_mod (t := t) hpos
        have hne : (((cs.map V.int).length : Nat) : Int) ≠ 0 := by rw [List.length_map]; omega
        refine ⟨_, rfl, p, _, rfl, gC2, _, rfl, _, rfl, p, _, rfl, gC2, L, _, rfl, .inl (SqL.of g2), _, _, rfl, rfl, hne, L, _, _, _, rfl, rfl, SqL.of g2, hv, ?_⟩
        clear hne hv hpos
        clear c1
        refine ⟨_, rfl, _, rfl, p, _, rfl, gC2, L, _, rfl, .inl (SqL.of g2), _, _, rfl, rfl, _, rfl, ?_⟩
        refine ite2 (fun c2 => ?_) (fun c2 => iteF ?_)
        refine ⟨_, rfl, _, rfl, _, _, rfl, rfl, cpow, _, _, rfl, rfl, _, rfl, ?_⟩
        refine ite2 (fun c3 => ?_) (fun c3 => ?_)
        · -- a large cell
          refine ⟨_, rfl, _, rfl, _, _, rfl, rfl, cpow, _, _, rfl, rfl, _, rfl, _, _, rfl, rfl, ⟨h0, h1⟩, _, rfl, p, _, rfl, DPut.k (k := Sum.inr "rest") g1 (by show 3 < sizeLine; decide), ?_⟩
          rw [pen_putR]
          refine ⟨_, rfl, _, rfl, _, _, rfl, rfl, cpow, _, _, rfl, rfl, _, rfl, _, _, rfl, rfl, hmany, ?_⟩
          have c4 : (10 : Int) ^ (18 : Int).toNat ≤ (if v < 0 then -v else v) := of_decide_eq_true c3
          have hb := fmod_b (a := (if v < 0 then -v else v) - 10 ^ (18 : Int).toNat) h0
          exact k _ _ b2.wr ⟨cs, t + 1, _, upd_same, by rw [upd_ne nLp]; exact g2, e3, by omega, by omega, Int.ediv_nonneg (by omega) (by omega)⟩ hb.1 hb.2
        all_goals
          refine ⟨(by show 5 ≤ sizeLine; decide), fun l hl => ?_⟩
          have npl : p ≠ l := ne_of_none g1 hl
          have nLl : L ≠ l := ne_of_none g2 hl
          obtain ⟨p1, hp1, p1a, p1b⟩ := pick5 (a := 2147483647) (b := 2147483629) (c := 2147483587) (d := 2147483579) (e := 2147483563) (t := t) (fun z => 2147483563 ≤ z ∧ z ≤ 2147483647) (by decide) (by decide) (by decide) (by decide) (by decide) e4
          obtain ⟨p2, hp2, p2a, p2b⟩ := pick5 (a := 2147483647) (b := 2147483629) (c := 2147483587) (d := 2147483579) (e := 2147483563) (t := t + 3) (fun z => 2147483563 ≤ z ∧ z ≤ 2147483647) (by decide) (by decide) (by decide) (by decide) (by decide) (by omega)
          have hq1 : p1 ≠ 0 := by omega
          have hq2 : p2 ≠ 0 := by omega
          refine ⟨_, rfl, _, rfl, _, _, rfl, rfl, h5, l, _, _, _, rfl, rfl, SqL.of upd_same, hp1, ?_⟩
          have m1 := fmod_b (a := v) (b := p1) (by omega)
          refine ⟨_, rfl, _, rfl, _, _, rfl, rfl, hq1, _, _, rfl, rfl, .inl ⟨by omega, by omega⟩, _, rfl, _, _, rfl, rfl, .inl ⟨by decide, by decide⟩, _, rfl, _, _, rfl, rfl, .inl ⟨by omega, by omega⟩, _, _, rfl, rfl, _, _, rfl, rfl, _, rfl, _, _, rfl, rfl, hq1, ?_⟩
          have m2 := fmod_b (a := v.fmod p1 * 69621 + 40692 * t * t + 17) (b := p1) (by omega)
          refine ⟨_, rfl, _, rfl, _, _, rfl, rfl, _, _, rfl, rfl, .inl ⟨by omega, by omega⟩, _, rfl, _, rfl, _, _, rfl, rfl, _, _, rfl, rfl, h5, l, _, _, _, rfl, rfl, SqL.of upd_same, hp2, _, _, rfl, rfl, hq2, ?_⟩
          have m3 := fmod_b (a := ((v.fmod p1 * 69621 + 40692 * t * t + 17).fmod p1) * (((v.fmod p1 * 69621 + 40692 * t * t + 17).fmod p1) + 48271)) (b := p2) (by omega)
          refine ⟨_, rfl, _, rfl, _, _, rfl, rfl, .inl ⟨by omega, by omega⟩, _, _, rfl, rfl, h49, _, _, rfl, rfl, ⟨by decide, by decide⟩, _, rfl, _, _, rfl, rfl, hmany, ?_⟩
          have hb := fmod_b (a := (Int.fmod (((((v.fmod p1 * 69621 + 40692 * t * t + 17).fmod p1) * (((v.fmod p1 * 69621 + 40692 * t * t + 17).fmod p1) + 48271)).fmod p2) * ((((v.fmod p1 * 69621 + 40692 * t * t + 17).fmod p1) * (((v.fmod p1 * 69621 + 40692 * t * t + 17).fmod p1) + 48271)).fmod p2)) 2147483549).fdiv 64) h0
          refine k _ _ ?_ ⟨cs, t + 1, r, ?_, ?_, e3, by omega, by omega, e6⟩ hb.1 hb.2
          · walk_at "sm"
          · walk_at "hp"
          · walk_at "hp"
      · have hne := cs.length
        clear c1
        refine ⟨_, rfl, _, rfl, p, _, rfl, gC2, L, _, rfl, .inl (SqL.of g2), _, _, rfl, rfl, _, rfl, ?_⟩
        refine ite2 (fun c2 => ?_) (fun c2 => iteF ?_)
        refine ⟨_, rfl, _, rfl, _, _, rfl, rfl, cpow, _, _, rfl, rfl, _, rfl, ?_⟩
        refine ite2 (fun c3 => ?_) (fun c3 => ?_)
        · -- a large cell
          refine ⟨_, rfl, _, rfl, _, _, rfl, rfl, cpow, _, _, rfl, rfl, _, rfl, _, _, rfl, rfl, ⟨h0, h1⟩, _, rfl, p, _, rfl, DPut.k (k := Sum.inr "rest") g1 (by show 3 < sizeLine; decide), ?_⟩
          rw [pen_putR]
          refine ⟨_, rfl, _, rfl, _, _, rfl, rfl, cpow, _, _, rfl, rfl, _, rfl, _, _, rfl, rfl, hmany, ?_⟩
          have c4 : (10 : Int) ^ (18 : Int).toNat ≤ (if (37 * t + 11) < 0 then -(37 * t + 11) else (37 * t + 11)) := of_decide_eq_true c3
          have hb := fmod_b (a := (if (37 * t + 11) < 0 then -(37 * t + 11) else (37 * t + 11)) - 10 ^ (18 : Int).toNat) h0
          exact k _ _ b2.wr ⟨cs, t + 1, _, upd_same, by rw [upd_ne nLp]; exact g2, e3, by omega, by omega, Int.ediv_nonneg (by omega) (by omega)⟩ hb.1 hb.2
        all_goals
          refine ⟨(by show 5 ≤ sizeLine; decide), fun l hl => ?_⟩
          have npl : p ≠ l := ne_of_none g1 hl
          have nLl : L ≠ l := ne_of_none g2 hl
          obtain ⟨p1, hp1, p1a, p1b⟩ := pick5 (a := 2147483647) (b := 2147483629) (c := 2147483587) (d := 2147483579) (e := 2147483563) (t := t) (fun z => 2147483563 ≤ z ∧ z ≤ 2147483647) (by decide) (by decide) (by decide) (by decide) (by decide) e4
          obtain ⟨p2, hp2, p2a, p2b⟩ := pick5 (a := 2147483647) (b := 2147483629) (c := 2147483587) (d := 2147483579) (e := 2147483563) (t := t + 3) (fun z => 2147483563 ≤ z ∧ z ≤ 2147483647) (by decide) (by decide) (by decide) (by decide) (by decide) (by omega)
          have hq1 : p1 ≠ 0 := by omega
          have hq2 : p2 ≠ 0 := by omega
          refine ⟨_, rfl, _, rfl, _, _, rfl, rfl, h5, l, _, _, _, rfl, rfl, SqL.of upd_same, hp1, ?_⟩
          have m1 := fmod_b (a := (37 * t + 11)) (b := p1) (by omega)
          refine ⟨_, rfl, _, rfl, _, _, rfl, rfl, hq1, _, _, rfl, rfl, .inl ⟨by omega, by omega⟩, _, rfl, _, _, rfl, rfl, .inl ⟨by decide, by decide⟩, _, rfl, _, _, rfl, rfl, .inl ⟨by omega, by omega⟩, _, _, rfl, rfl, _, _, rfl, rfl, _, rfl, _, _, rfl, rfl, hq1, ?_⟩
          have m2 := fmod_b (a := (37 * t + 11).fmod p1 * 69621 + 40692 * t * t + 17) (b := p1) (by omega)
          refine ⟨_, rfl, _, rfl, _, _, rfl, rfl, _, _, rfl, rfl, .inl ⟨by omega, by omega⟩, _, rfl, _, rfl, _, _, rfl, rfl, _, _, rfl, rfl, h5, l, _, _, _, rfl, rfl, SqL.of upd_same, hp2, _, _, rfl, rfl, hq2, ?_⟩
          have m3 := fmod_b (a := (((37 * t + 11).fmod p1 * 69621 + 40692 * t * t + 17).fmod p1) * ((((37 * t + 11).fmod p1 * 69621 + 40692 * t * t + 17).fmod p1) + 48271)) (b := p2) (by omega)
          refine ⟨_, rfl, _, rfl, _, _, rfl, rfl, .inl ⟨by omega, by omega⟩, _, _, rfl, rfl, h49, _, _, rfl, rfl, ⟨by decide, by decide⟩, _, rfl, _, _, rfl, rfl, hmany, ?_⟩
          have hb := fmod_b (a := (Int.fmod ((((((37 * t + 11).fmod p1 * 69621 + 40692 * t * t + 17).fmod p1) * ((((37 * t + 11).fmod p1 * 69621 + 40692 * t * t + 17).fmod p1) + 48271)).fmod p2) * (((((37 * t + 11).fmod p1 * 69621 + 40692 * t * t + 17).fmod p1) * ((((37 * t + 11).fmod p1 * 69621 + 40692 * t * t + 17).fmod p1) + 48271)).fmod p2)) 2147483549).fdiv 64) h0
          refine k _ _ ?_ ⟨cs, t + 1, r, ?_, ?_, e3, by omega, by omega, e6⟩ hb.1 hb.2
          · walk_at "sm"
          · walk_at "hp"
          · walk_at "hp"
end
end Vg

set_option Elab.async false
set_option linter.all false
set_option maxRecDepth 100000
set_option maxHeartbeats 2000000
namespace Vg
open PySem PySem.Spec PyProof.Rows L2
-- a ≠ b; a place of a heap; what is kept
local macro_rules | `(tactic| walk_at "nq") => `(tactic| with_reducible first
  | assumption
  | (apply Ne.symm; assumption))
local macro_rules | `(tactic| walk_at "hp") => `(tactic| with_reducible first
  | assumption
  | exact upd_same
  | (refine Eq.trans (upd_ne ?_) ?_; (with_reducible walk_at "nq"); (with_reducible walk_at "hp")))
local macro_rules | `(tactic| walk_at "sm") => `(tactic| with_reducible first
  | assumption
  | exact Same.refl _
  | exact But.refl _ _
  | (refine sm_nw ?_ ?_; rotate_left; (with_reducible assumption); walk_at "sm")
  | (refine But.nw ?_ ?_; rotate_left; (with_reducible assumption); walk_at "sm")
  | (refine sm_own ?_ ?_; rotate_left; (with_reducible assumption); walk_at "sm")
  | (refine But.own ?_ ?_; rotate_left; (with_reducible assumption); walk_at "sm")
  | (refine But.wr ?_; walk_at "sm"))

section
variable {P : Program} {w : World} {K : PySem.W.Frag} {mg : Str → Option Value} {base : Heap}
theorem c_pick (D : DefAt K mg "_law_pick" s__law_pick) (T : Txt K mg)
    (c__law_draw : Cal P w K mg base 1 "_law_draw" ["pen", "many"] sp_draw) :
    Cal P w K mg base 2 "_law_pick" ["pen", "some"] (sp_pick K) := by
  refine cal_mk D sc__law_pick (fun _ _ _ _ _ _ _ us hl => match us, hl with | [_, _], _ => rfl)
    (fun vs H Q E h => ?_) (fun f cdv A outer s H vs Q hgu hr h => ?_)
  · obtain ⟨p, L, a, n, xs, rfl, _⟩ := h; rfl
  · obtain ⟨p, L, a, n, xs, rfl, hp, hn, hS, hap, hpos, hbig, k⟩ := h
    refine ⟨_,
      (pss_one (ps_ret (pe_ix ix_seq (pv 1) (pe_cal c__law_draw hgu (hr.mono (by decide)) (pa_cons (pv 0) (pa_cons (pe_callB call_len_seq (by rfl) T.f_len (by decide +kernel) (pa_cons (pv 1) pa_nil)) pa_nil))) (fun _ _ => rfl))))
      , ?_⟩
    refine ⟨_, rfl, _, rfl, _, rfl, a, xs, rfl, hS, ?_⟩
    refine ⟨p, L, n, _, rfl, hp, hn, by omega, len_log hbig hpos, fun H1 d b1 pn1 d0 d1 => ?_⟩
    obtain ⟨v, hv, hm⟩ := at_in (xs := xs) d0 d1
    rcases hS with hS | hS
    · exact .inl ⟨a, xs, d, v, rfl, rfl, b1.seq hap hS, hv, k _ _ b1 pn1 hm⟩
    · exact .inr (.inl ⟨a, xs, d, v, rfl, rfl, b1.tup hap hS, hv, k _ _ b1 pn1 hm⟩)
theorem c_shuffled (D : DefAt K mg "_law_shuffled" s__law_shuffled) (T : Txt K mg)
    (c__law_draw : Cal P w K mg base 1 "_law_draw" ["pen", "many"] sp_draw) :
    Cal P w K mg base 2 "_law_shuffled" ["pen", "some"] (sp_shuffled K) := by
  refine cal_mk D sc__law_shuffled (fun _ _ _ _ _ _ _ us hl => match us, hl with | [_, _], _ => rfl)
    (fun vs H Q E h => ?_) (fun f cdv A outer s H vs Q hgu hr h => ?_)
  · obtain ⟨p, L, a, n, ns, rfl, _⟩ := h; rfl
  · obtain ⟨p, L, a, n, ns, rfl, hp, hn, hS, hl, k⟩ := h
    refine ⟨_,
      (pss_cons (ps_par (i := 2) (j := 3) (by rfl) sc__law_shuffled.nd rfl rfl (by decide) rfl rfl (pa_cons (pe_callTy call_list_of (by rfl) T.f_list (by decide +kernel) (pa_cons (pv 1) pa_nil)) (pa_cons (pe_lst pa_nil) pa_nil)) (by rfl))
      (pss_cons (ps_while PassesOwn.never (pt_cmpR (op_neD hr.units) (pv 2) (pe_lst pa_nil) (nomark _))
        (pss_one (ps_expr (pe_bm PySem.F.plainAttrs_list PySem.F.slot_list_append PySem.F.type_list_append mt_append (pv 3) (pa_cons (pe_bm PySem.F.plainAttrs_list PySem.F.slot_list_pop PySem.F.type_list_pop mt_popAt (pv 2) (pa_cons (pe_cal c__law_draw hgu (hr.mono (by decide)) (pa_cons (pv 0) (pa_cons (pe_callB call_len_seq (by rfl) T.f_len (by decide +kernel) (pa_cons (pv 2) pa_nil)) pa_nil))) pa_nil)) pa_nil)))))
      (pss_one (ps_ret (pv 3)))))
      , ?_⟩
    refine ⟨_, rfl, a, _, rfl, .inl hS, fun l hlf => ?_⟩
    refine ⟨Nat.zero_le _, fun m hmf => ?_⟩
    have nlm : l ≠ m := ne_of_none upd_same hmf
    have Hm : H m = none := (sm_new hlf).free hmf
    have nlp : l ≠ p := hp.ne_n hlf
    have nmp : m ≠ p := hp.ne_n Hm
    have nlL : l ≠ L := hp.ne_nL hlf
    have nmL : m ≠ L := hp.ne_nL Hm
    have sm0 : Same H (upd (upd H l (.lst (ns.map V.int))) m (.lst [])) := by walk_at "sm"
    refine ⟨_, _, rfl, ?_⟩
    refine ⟨fun j σ' H' => ∃ (ls ms : List Int), σ' = [some (.ref p), some (.ref a), some (.ref l), some (.ref m)] ∧ j = ls.length ∧ But p H H' ∧
      PenAt H' p L (n + ms.length) ∧ H' l = some (.lst (ls.map V.int)) ∧ H' m = some (.lst (ms.map V.int)) ∧ (ms ++ ls).Perm ns, ?_, ?_⟩
    · exact ⟨_, ns, [], rfl, rfl, But.of sm0, (hp.same sm0).mono (Nat.le_refl _), by walk_at "hp", upd_same, List.Perm.refl _⟩
    · rintro j σ' H' ⟨ls, ms, rfl, rfl, b1, pn1, e1, e2, hpm⟩
      have hlen : ms.length + ls.length = ns.length := by rw [← hpm.length_eq, List.length_append]
      refine ⟨_, rfl, Nat.zero_le _, fun q hq => ?_⟩
      have nlq : l ≠ q := ne_of_none e1 hq
      have nmq : m ≠ q := ne_of_none e2 hq
      have npq : p ≠ q := (pn1.ne_n hq).symm
      refine ⟨.list (ls.map PyData.int), .list [], Dp.lst (SqL.of (by walk_at "hp")) (dp_ints ls), Dp.lst (SqL.of upd_same) .nil, shaped_ints ls, rfl, _, rfl, ?_⟩
      rw [eqv_nil]
      have b2 : But p H (upd H' q (.lst [])) := by walk_at "sm"
      have pn2 := pn1.same (sm_new (o := .lst []) hq)
      have f1 : (upd H' q (.lst [])) l = some (.lst (ls.map V.int)) := by walk_at "hp"
      have f2 : (upd H' q (.lst [])) m = some (.lst (ms.map V.int)) := by walk_at "hp"
      generalize upd H' q (.lst []) = H2 at b2 pn2 f1 f2 ⊢
      clear hq b1 pn1 e1 e2
      cases ls with
      | nil =>
        refine iteF ⟨_, rfl, k H2 m ms b2 (pn2.mono (by omega)) Hm f2 ?_⟩
        rw [List.append_nil] at hpm
        exact hpm
      | cons x r =>
        refine iteT ⟨_, fun _ _ z => z, ?_⟩
        refine ⟨_, rfl, .inl ⟨rfl, _, SqL.of f2⟩, _, rfl, .inl ⟨rfl, _, SqL.of f1⟩, _, rfl, _, rfl, l, _, rfl, .inl (SqL.of f1), ?_⟩
        refine ⟨p, L, _, _, rfl, pn2, by omega, by simp, len_log (by rw [List.length_map]; omega) (by simp), fun H3 d b3 pn3 d0 d1 => ?_⟩
        have g1 := b3 _ _ nlp f1
        have g2 := b3 _ _ nmp f2
        obtain ⟨i, rfl⟩ : ∃ i : Nat, d = (i : Int) := ⟨d.toNat, by omega⟩
        have hi : i < (x :: r).length := by
          have z := d1
          rw [List.length_map] at z
          omega
        have hiv : ((x :: r).map V.int)[i]? = some (V.int (x :: r)[i]) := by
          rw [List.getElem?_map, List.getElem?_eq_getElem hi]; rfl
        refine ⟨l, _, _, i, _, rfl, rfl, g1, by omega, by omega, seq_nat (by rw [List.length_map]; exact hi), hiv, ?_⟩
        refine ⟨m, _, _, rfl, rfl, (by walk_at "hp"), (by show (ms.map V.int).length < sizeLine; rw [List.length_map]; exact Nat.lt_of_lt_of_le (by omega : ms.length < 1001) (by decide)), ?_⟩
        refine ⟨_, by show ((x :: r).eraseIdx i).length < (x :: r).length; rw [List.length_eraseIdx_of_lt hi]; simp, (x :: r).eraseIdx i, ms ++ [(x :: r)[i]], rfl, rfl, ?_, ?_, ?_, ?_, ?_⟩
        · have b4 := b2.trans b3
          walk_at "sm"
        · rw [List.length_append, List.length_singleton, ← Nat.add_assoc]
          exact (pn3.wr nlp nlL).wr nmp nmL
        · rw [map_erase]
          walk_at "hp"
        · rw [List.map_append]
          exact upd_same
        · refine (List.Perm.trans ?_ hpm)
          rw [List.append_assoc]
          exact List.Perm.append_left _ (perm_erase hi)
end
end Vg

set_option Elab.async false
set_option linter.all false
set_option maxRecDepth 100000
set_option maxHeartbeats 2000000
namespace Vg
open PySem PySem.Spec PyProof.Rows L2
-- a ≠ b; a place of a heap; what is kept
local macro_rules | `(tactic| walk_at "nq") => `(tactic| with_reducible first
  | assumption
  | (apply Ne.symm; assumption))
local macro_rules | `(tactic| walk_at "hp") => `(tactic| with_reducible first
  | assumption
  | exact upd_same
  | (refine Eq.trans (upd_ne ?_) ?_; (with_reducible walk_at "nq"); (with_reducible walk_at "hp")))
local macro_rules | `(tactic| walk_at "sm") => `(tactic| with_reducible first
  | assumption
  | exact Same.refl _
  | exact But.refl _ _
  | (refine sm_nw ?_ ?_; rotate_left; (with_reducible assumption); walk_at "sm")
  | (refine But.nw ?_ ?_; rotate_left; (with_reducible assumption); walk_at "sm")
  | (refine sm_own ?_ ?_; rotate_left; (with_reducible assumption); walk_at "sm")
  | (refine But.own ?_ ?_; rotate_left; (with_reducible assumption); walk_at "sm")
  | (refine But.wr ?_; walk_at "sm"))

section
variable {P : Program} {w : World} {K : PySem.W.Frag} {mg : Str → Option Value} {base : Heap}
theorem c_modulus (D : DefAt K mg "_law_modulus" s__law_modulus) (T : Txt K mg)
    (c__law_draw : Cal P w K mg base 1 "_law_draw" ["pen", "many"] sp_draw)
    (c__law_pick : Cal P w K mg base 2 "_law_pick" ["pen", "some"] (sp_pick K))
    (c__law_shuffled : Cal P w K mg base 2 "_law_shuffled" ["pen", "some"] (sp_shuffled K)) :
    Cal P w K mg base 3 "_law_modulus" ["pen", "most"] sp_modulus := by
  refine cal_mk D sc__law_modulus (fun _ _ _ _ _ _ _ us hl => match us, hl with | [_, _], _ => rfl)
    (fun vs H Q E h => ?_) (fun f cdv A outer s H vs Q hgu hr h => ?_)
  · obtain ⟨p, L, n, most, rfl, _⟩ := h; rfl
  · obtain ⟨p, L, n, most, rfl, hp, hn, hm2, hm9, k⟩ := h
    refine ⟨_,
      (pss_cons (ps_par (i := 2) (j := 3) (by rfl) sc__law_modulus.nd rfl rfl (by decide) rfl rfl (pa_cons pe_int (pa_cons (pe_op op_cat (pe_slice sl_list (pe_cal c__law_shuffled hgu (hr.mono (by decide)) (pa_cons (pv 0) (pa_cons (pe_lst (pa_cons pe_int (pa_cons pe_int (pa_cons pe_int (pa_cons pe_int (pa_cons pe_int (pa_cons pe_int pa_nil))))))) pa_nil))) po_none (po_some (pe_op op_add pe_int (pe_cal c__law_draw hgu (hr.mono (by decide)) (pa_cons (pv 0) (pa_cons pe_int pa_nil)))))) (pe_lst (pa_cons pe_int pa_nil))) pa_nil)) (by rfl))
      (pss_cons (ps_for PassesOwn.never rfl (pi_range1 (by rfl) T.f_range (pa_cons (pe_op op_add pe_int (pe_cal c__law_draw hgu (hr.mono (by decide)) (pa_cons (pv 0) (pa_cons pe_int pa_nil)))) pa_nil)) (pg_name (i := 4) sc__law_modulus.nd rfl (Or.inl rfl))
        (pss_cons (ps_set (i := 5) sc__law_modulus.nd rfl (Or.inl rfl) (pe_cal c__law_pick hgu (hr.mono (by decide)) (pa_cons (pv 0) (pa_cons (pv 3) pa_nil))))
        (pss_one (ps_if (pt_cmpR op_le (pe_op op_mul (pv 2) (pv 5)) (pv 1) (nomark _)) (pss_one (ps_set (i := 2) sc__law_modulus.nd rfl (Or.inl rfl) (pe_op op_mul (pv 2) (pv 5)))) pss_nil))))
      (pss_one (ps_ret (pe_ifExp (pt_cmpR op_gt (pv 2) pe_int (nomark _)) (pv 2) pe_int)))))
      , ?_⟩
    refine ⟨_, rfl, (by show 6 ≤ sizeLine; decide), fun l hl => ?_⟩
    refine ⟨p, L, l, n, [2, 3, 5, 7, 11, 13], rfl, hp.new hl, by show n + 6 ≤ _; omega, SqL.of upd_same, by decide, ?_⟩
    intro H1 l1 ms b1 pn1 f1 g1 hpm
    have b1' : But p H H1 := (But.new hl).trans b1
    refine ⟨_, rfl, p, L, _, 3, rfl, pn1, by show n + 6 ≤ _; omega, by decide, by decide, ?_⟩
    intro H2 d b2 pn2 d0 d1
    have n1 : l1 ≠ p := pn1.ne_l g1
    have g2 := b2 _ _ n1 g1
    refine ⟨_, _, rfl, rfl, _, rfl, l1, _, rfl, SqL.of g2, fun q hq => ?_⟩
    refine ⟨(by show 1 ≤ sizeLine; decide), fun r hr2 => ?_⟩
    have hlen : ms.length = 6 := by rw [hpm.length_eq]; rfl
    have nqr : q ≠ r := ne_of_none upd_same hr2
    refine ⟨q, r, _, _, rfl, rfl, (by walk_at "hp"), upd_same, ?_, fun z hz => ?_⟩
    · have h1 := cutV_length (ms.map V.int) none (some (1 + d))
      rw [List.length_map] at h1
      exact Nat.le_trans (show (cutV (ms.map V.int) none (some (1 + d))).length + 1 ≤ 1000 by omega) (by decide)
    refine ⟨_, _, rfl, ?_⟩
    -- the primes to pick from
    have hmem : ∀ v ∈ cutV (ms.map V.int) none (some (1 + d)) ++ [V.int 2], ∃ i, v = V.int i ∧ i ∈ ([2, 3, 5, 7, 11, 13] : List Int) := by
      intro v hv
      rcases List.mem_append.mp hv with hv | hv
      · obtain ⟨i, hi, rfl⟩ := List.mem_map.mp (mem_cut hv)
        exact ⟨i, rfl, hpm.mem_iff.mp hi⟩
      · exact ⟨2, List.mem_singleton.mp hv, by simp⟩
    have hpl : 0 < (cutV (ms.map V.int) none (some (1 + d)) ++ [V.int 2]).length := by simp
    have hpl2 : (cutV (ms.map V.int) none (some (1 + d)) ++ [V.int 2]).length ≤ 1000000 := by
      have h1 := cutV_length (ms.map V.int) none (some (1 + d))
      rw [List.length_map] at h1
      rw [List.length_append, List.length_singleton]
      omega
    generalize hps : cutV (ms.map V.int) none (some (1 + d)) ++ [V.int 2] = ps at hmem hpl hpl2 hz ⊢
    have b3 : But p H (upd (upd (upd H2 q (.lst (cutV (ms.map V.int) none (some (1 + d))))) r (.lst [.int 2])) z (.lst ps)) :=
      (((b1'.trans b2).nw hq).nw hr2).nw hz
    have pn3 := ((pn2.new (o := .lst (cutV (ms.map V.int) none (some (1 + d)))) hq).new (o := .lst [.int 2]) hr2).new (o := .lst ps) hz
    have g3 : (upd (upd (upd H2 q (.lst (cutV (ms.map V.int) none (some (1 + d))))) r (.lst [.int 2])) z (.lst ps)) z = some (.lst ps) := upd_same
    generalize upd (upd (upd H2 q (.lst (cutV (ms.map V.int) none (some (1 + d))))) r (.lst [.int 2])) z (.lst ps) = H3 at b3 pn3 g3 ⊢
    clear hz hps hr2 hq
    have nzp : z ≠ p := pn3.ne_l g3
    refine ⟨_, rfl, p, L, _, 12, rfl, pn3, by show n + 6 + 1 ≤ _; omega, by decide, by decide, ?_⟩
    intro H4 e b4 pn4 e0 e1
    have g4 := b4 _ _ nzp g3
    refine ⟨_, _, rfl, rfl, _, rfl, by omega, by omega, for_range (n := (1 + e).toNat)
      (fun i σ' H' => ∃ (m : Int) (kk pp : Option V), σ' = [some (.ref p), some (.int most), some (.int m), some (.ref z), kk, pp] ∧ But p H H' ∧
        PenAt H' p L (n + 8 + i) ∧ H' z = some (.lst ps) ∧ 1 ≤ m ∧ (m = 1 ∨ 2 ≤ m) ∧ m ≤ most ∧ Sm m) ?_ ?_ ?_⟩
    · exact ⟨1, none, none, rfl, b3.trans b4, pn4, g4, by decide, .inl rfl, by omega, .one⟩
    · rintro i σ' H' hi ⟨m, kk, pp, rfl, c1, c2, c3, c4, c5, c6, c7⟩
      refine ⟨_, rfl, _, rfl, p, L, z, _, ps, rfl, c2, by omega, .inl (SqL.of c3), nzp, hpl, hpl2, ?_⟩
      intro H5 v b5 pn5 hv
      obtain ⟨q', rfl, hq'⟩ := hmem v hv
      have hq2 := p13 hq'
      have c3' := b5 _ _ nzp c3
      refine ⟨_, rfl, _, rfl, _, _, rfl, rfl, .inl ⟨by omega, by omega⟩, _, rfl, _, _, rfl, rfl, _, rfl, ite2 (fun c => ?_) (fun c => ?_)⟩
      · have c' : m * q' ≤ most := of_decide_eq_true c
        have hge : 2 ≤ m * q' := by
          have := Int.mul_le_mul c4 hq2.1 (by decide) (by omega)
          omega
        refine ⟨_, rfl, _, rfl, _, _, rfl, rfl, .inl ⟨by omega, by omega⟩, ?_⟩
        exact ⟨m * q', _, _, rfl, c1.trans b5, pn5.mono (by omega), c3', by omega, .inr hge, c', .mul c7 hq'⟩
      · exact ⟨m, _, _, rfl, c1.trans b5, pn5.mono (by omega), c3', c4, c5, c6, c7⟩
    · rintro σ' H' ⟨m, kk, pp, rfl, c1, c2, c3, c4, c5, c6, c7⟩
      have pnE : PenAt H' p L (n + 20) := c2.mono (by omega)
      refine ⟨_, rfl, _, _, rfl, rfl, _, rfl, ite2 (fun c => ?_) (fun c => ?_)⟩
      · have c' : 1 < m := of_decide_eq_true c
        exact ⟨_, rfl, k _ _ c1 pnE (by omega) c6 c7⟩
      · exact k _ _ c1 pnE (by decide) hm2 sm2
end
end Vg

set_option Elab.async false
set_option linter.all false
set_option maxRecDepth 100000
set_option maxHeartbeats 2000000
namespace Vg
open PySem PySem.Spec PyProof.Rows L2
-- a ≠ b; a place of a heap; what is kept
local macro_rules | `(tactic| walk_at "nq") => `(tactic| with_reducible first
  | assumption
  | (apply Ne.symm; assumption))
local macro_rules | `(tactic| walk_at "hp") => `(tactic| with_reducible first
  | assumption
  | exact upd_same
  | (refine Eq.trans (upd_ne ?_) ?_; (with_reducible walk_at "nq"); (with_reducible walk_at "hp")))
local macro_rules | `(tactic| walk_at "sm") => `(tactic| with_reducible first
  | assumption
  | exact Same.refl _
  | exact But.refl _ _
  | (refine sm_nw ?_ ?_; rotate_left; (with_reducible assumption); walk_at "sm")
  | (refine But.nw ?_ ?_; rotate_left; (with_reducible assumption); walk_at "sm")
  | (refine sm_own ?_ ?_; rotate_left; (with_reducible assumption); walk_at "sm")
  | (refine But.own ?_ ?_; rotate_left; (with_reducible assumption); walk_at "sm")
  | (refine But.wr ?_; walk_at "sm"))

/-- the chain of m, a new list -/
def sp_chain : Sp := fun vs H Q _ => ∃ (m : Int), vs = [.int m] ∧ 1 ≤ m ∧ m ≤ 1000000000 ∧
  ∀ H' l, Same H H' → H l = none → H' l = some (.lst ((chainL m).map V.int)) → Q (.ref l) H'
theorem p6_drop {i : Nat} {v : V} (h : ([V.int 2, .int 3, .int 5, .int 7, .int 11, .int 13] : List V)[i]? = some v) :
    ∃ q, v = .int q ∧ P6.drop i = q :: P6.drop (i + 1) ∧ 2 ≤ q ∧ q ≤ 13 := by
  rcases i with _ | _ | _ | _ | _ | _ | i
  · cases h; exact ⟨2, rfl, rfl, by decide, by decide⟩
  · cases h; exact ⟨3, rfl, rfl, by decide, by decide⟩
  · cases h; exact ⟨5, rfl, rfl, by decide, by decide⟩
  · cases h; exact ⟨7, rfl, rfl, by decide, by decide⟩
  · cases h; exact ⟨11, rfl, rfl, by decide, by decide⟩
  · cases h; exact ⟨13, rfl, rfl, by decide, by decide⟩
  · simp at h
theorem eq0 {a b : Int} : decide (V.int a = V.int b) = decide (a = b) := by
  by_cases h : a = b
  · subst h; simp
  · have : ¬ (V.int a = V.int b) := fun z => h (V.int.inj z)
    rw [decide_eq_false h, decide_eq_false this]
theorem at_last {ini : List Int} {last : Int} : atI ((ini ++ [last]).map V.int) (-1) = some (.int last) := by
  rw [List.map_append]
  exact atI_last _ _
section
variable {P : Program} {w : World} {K : PySem.W.Frag} {mg : Str → Option Value} {base : Heap}
theorem c_lchain (D : DefAt K mg "_law_chain" s__law_chain) (T : Txt K mg) :
    Cal P w K mg base 1 "_law_chain" ["m"] sp_chain := by
  refine cal_mk D sc__law_chain (fun _ _ _ _ _ _ _ us hl => match us, hl with | [_], _ => rfl)
    (fun vs H Q E h => ?_) (fun f cdv A outer s H vs Q hgu hr h => ?_)
  · obtain ⟨m, rfl, _⟩ := h; rfl
  · obtain ⟨m, rfl, hm1, hm9, k⟩ := h
    refine ⟨_,
      (pss_cons (ps_set (i := 1) sc__law_chain.nd rfl (Or.inl rfl) (pe_lst (pa_cons pe_int pa_nil)))
      (pss_cons (ps_for PassesOwn.never rfl (pi_tup (pe_tup (pa_cons pe_int (pa_cons pe_int (pa_cons pe_int (pa_cons pe_int (pa_cons pe_int (pa_cons pe_int pa_nil)))))))) (pg_name (i := 2) sc__law_chain.nd rfl (Or.inl rfl))
        (pss_one (ps_while PassesOwn.never (pt_cmpR op_eq (pe_op op_modN (pe_op op_fdivN (pv 0) (pe_ix ix_list (pv 1) (pe_un un_neg pe_int) (fun _ _ => rfl))) (pv 2)) pe_int (nomark _))
            (pss_one (ps_expr (pe_bm PySem.F.plainAttrs_list PySem.F.slot_list_append PySem.F.type_list_append mt_append (pv 1) (pa_cons (pe_op op_mul (pe_ix ix_list (pv 1) (pe_un un_neg pe_int) (fun _ _ => rfl)) (pv 2)) pa_nil)))))))
      (pss_one (ps_ret (pv 1)))))
      , ?_⟩
    refine ⟨(by show 1 ≤ sizeLine; decide), fun l hl => ?_⟩
    refine ⟨(by show 6 ≤ sizeLine; decide), fun t ht => ?_⟩
    have nlt : l ≠ t := ne_of_none upd_same ht
    refine ⟨t, rfl, ⟨_, SqT.of upd_same⟩, for_tup (K := K) (a := t) (xs := [V.int 2, .int 3, .int 5, .int 7, .int 11, .int 13])
      (fun i σ' H' => ∃ (pre : List Int) (x : Int) (qq : Option V), σ' = [some (.int m), some (.ref l), qq] ∧ Same H H' ∧
        H' l = some (.lst (pre.map V.int)) ∧ H' t = some (.tup [V.int 2, .int 3, .int 5, .int 7, .int 11, .int 13]) ∧ Way m (P6.drop i) pre x) ?_ ?_ ?_ ?_⟩
    · exact ⟨[1], m, none, rfl, by walk_at "sm", (upd_ne nlt).trans upd_same, upd_same, Way.start hm1⟩
    · rintro i σ' H' _ ⟨pre, x, qq, rfl, a1, a2, a3, a4⟩
      exact SqT.of a3
    · rintro i v σ' H' hi ⟨pre, x, qq, rfl, a1, a2, a3, a4⟩
      obtain ⟨q, rfl, hd, hq2, hq13⟩ := p6_drop hi
      rw [hd] at a4
      refine ⟨fun j σ2 H2 => ∃ (pre : List Int) (x : Int), σ2 = [some (.int m), some (.ref l), some (.int q)] ∧ j = x.toNat ∧ Same H H2 ∧
        H2 l = some (.lst (pre.map V.int)) ∧ H2 t = some (.tup [V.int 2, .int 3, .int 5, .int 7, .int 11, .int 13]) ∧ WayQ m q (P6.drop (i + 1)) pre x,
        ⟨_, pre, x, rfl, rfl, a1, a2, a3, a4.q⟩, ?_⟩
      rintro j σ2 H2 ⟨pre, x, rfl, rfl, b1, b2, b3, b4⟩
      obtain ⟨ini, last, rfl, e1, e2, e3⟩ := b4.last
      have sh := short_way e1 e2 b4.pos e3 hm9
      have hx : m.fdiv last = x := by
        rw [Int.fdiv_eq_ediv_of_nonneg _ (by omega), ← e1]
        exact Int.mul_ediv_cancel_left x (by omega)
      refine ⟨_, rfl, _, rfl, _, rfl, l, _, _, _, rfl, rfl, SqL.of b2, at_last, _, _, rfl, rfl, ⟨by omega, by omega⟩, _, rfl, _, _, rfl, rfl, (by show q ≠ 0; omega), rfl, _, rfl, ?_⟩
      rw [eq0, hx, Int.fmod_eq_emod_of_nonneg _ (by omega)]
      refine ite2 (fun c => ?_) (fun c => ?_)
      · have c' : x % q = 0 := of_decide_eq_true c
        have dt := div_turn b4.pos hq2 c'
        have hlt : x / q < x := Int.ediv_lt_self_of_pos_of_ne_one b4.pos (by omega)
        have b5 := b4.turn rfl hq2 c'
        refine ⟨_, fun _ _ z => z, ?_⟩
        refine ⟨_, rfl, .inl ⟨rfl, _, SqL.of b2⟩, _, rfl, _, rfl, l, _, _, _, rfl, rfl, SqL.of b2, at_last, _, rfl, _, _, rfl, rfl, .inl ⟨by omega, by omega⟩, l, _, _, rfl, rfl, b2, ?_, ?_⟩
        · rw [List.length_map, List.length_append, List.length_singleton]
          exact Nat.lt_of_lt_of_le (show ini.length + 1 < 1000 by omega) (by decide)
        · refine ⟨_, by omega, ini ++ [last] ++ [last * q], x / q, rfl, rfl, ?_, ?_, ?_, b5⟩
          · have hl0 : H l = none := hl
            walk_at "sm"
          · rw [map_snoc (ini ++ [last]) (last * q)]; exact upd_same
          · walk_at "hp"
      · have c' : ¬ x % q = 0 := fun z => c (decide_eq_true z)
        exact ⟨_, x, _, rfl, b1, b2, b3, b4.out c'⟩
    · rintro σ' H' ⟨pre, x, qq, rfl, a1, a2, a3, a4⟩
      refine ⟨_, rfl, k _ l a1 hl ?_⟩
      rw [a4.done.1]
      exact a2
theorem c_chain (D : DefAt K mg "chain" s_chain) (T : Txt K mg) :
    Cal P w K mg base 1 "chain" ["m"] sp_chain := by
  refine cal_mk D sc_chain (fun _ _ _ _ _ _ _ us hl => match us, hl with | [_], _ => rfl)
    (fun vs H Q E h => ?_) (fun f cdv A outer s H vs Q hgu hr h => ?_)
  · obtain ⟨m, rfl, _⟩ := h; rfl
  · obtain ⟨m, rfl, hm1, hm9, k⟩ := h
    refine ⟨_,
      (pss_cons (ps_set (i := 1) sc_chain.nd rfl (Or.inl rfl) (pe_lst (pa_cons pe_int pa_nil)))
      (pss_cons (ps_set (i := 2) sc_chain.nd rfl (Or.inl rfl) (pv 0))
      (pss_cons (ps_for PassesOwn.never rfl (pi_tup (pe_globR rfl T.g_PRIMES)) (pg_name (i := 3) sc_chain.nd rfl (Or.inl rfl))
        (pss_one (ps_while PassesOwn.never (pt_cmpR op_eq (pe_op op_modN (pv 2) (pv 3)) pe_int (nomark _))
            (pss_cons (ps_expr (pe_bm PySem.F.plainAttrs_list PySem.F.slot_list_append PySem.F.type_list_append mt_append (pv 1) (pa_cons (pe_op op_mul (pe_ix ix_list (pv 1) (pe_un un_neg pe_int) (fun _ _ => rfl)) (pv 3)) pa_nil)))
            (pss_one (ps_set (i := 2) sc_chain.nd rfl (Or.inl rfl) (pe_op op_fdivN (pv 2) (pv 3))))))))
      (pss_one (ps_ret (pv 1))))))
      , ?_⟩
    refine ⟨(by show 1 ≤ sizeLine; decide), fun l hl => ?_⟩
    refine ⟨_, rfl, ?_⟩
    refine ⟨_, rfl, ⟨_, T.primes _⟩, for_tup (K := K) (a := He.ga K "PRIMES") (xs := [V.int 2, .int 3, .int 5, .int 7, .int 11, .int 13])
      (fun i σ' H' => ∃ (pre : List Int) (x : Int) (qq : Option V), σ' = [some (.int m), some (.ref l), some (.int x), qq] ∧ Same H H' ∧
        H' l = some (.lst (pre.map V.int)) ∧ Way m (P6.drop i) pre x) ?_ ?_ ?_ ?_⟩
    · exact ⟨[1], m, none, rfl, by walk_at "sm", upd_same, Way.start hm1⟩
    · rintro i σ' H' _ _
      exact T.primes _
    · rintro i v σ' H' hi ⟨pre, x, qq, rfl, a1, a2, a4⟩
      obtain ⟨q, rfl, hd, hq2, hq13⟩ := p6_drop hi
      rw [hd] at a4
      refine ⟨fun j σ2 H2 => ∃ (pre : List Int) (x : Int), σ2 = [some (.int m), some (.ref l), some (.int x), some (.int q)] ∧ j = x.toNat ∧ Same H H2 ∧
        H2 l = some (.lst (pre.map V.int)) ∧ WayQ m q (P6.drop (i + 1)) pre x,
        ⟨_, pre, x, rfl, rfl, a1, a2, a4.q⟩, ?_⟩
      rintro j σ2 H2 ⟨pre, x, rfl, rfl, b1, b2, b4⟩
      obtain ⟨ini, last, rfl, e1, e2, e3⟩ := b4.last
      have sh := short_way e1 e2 b4.pos e3 hm9
      refine ⟨_, rfl, _, rfl, _, _, rfl, rfl, (by show q ≠ 0; omega), rfl, _, rfl, ?_⟩
      rw [eq0, Int.fmod_eq_emod_of_nonneg _ (by omega)]
      refine ite2 (fun c => ?_) (fun c => ?_)
      · have c' : x % q = 0 := of_decide_eq_true c
        have dt := div_turn b4.pos hq2 c'
        have hlt : x / q < x := Int.ediv_lt_self_of_pos_of_ne_one b4.pos (by omega)
        have b5 := b4.turn rfl hq2 c'
        refine ⟨_, fun _ _ z => z, ?_⟩
        refine ⟨_, rfl, .inl ⟨rfl, _, SqL.of b2⟩, _, rfl, _, rfl, l, _, _, _, rfl, rfl, SqL.of b2, at_last, _, rfl, _, _, rfl, rfl, .inl ⟨by omega, by omega⟩, l, _, _, rfl, rfl, b2, ?_, ?_⟩
        · rw [List.length_map, List.length_append, List.length_singleton]
          exact Nat.lt_of_lt_of_le (show ini.length + 1 < 1000 by omega) (by decide)
        · refine ⟨_, rfl, _, rfl, _, _, rfl, rfl, ⟨by omega, by omega⟩, ?_⟩
          have ed : x.fdiv q = x / q := Int.fdiv_eq_ediv_of_nonneg _ (by omega)
          refine ⟨_, by rw [ed]; omega, ini ++ [last] ++ [last * q], x.fdiv q, rfl, rfl, ?_, ?_, by rw [ed]; exact b5⟩
          · have hl0 : H l = none := hl
            walk_at "sm"
          · rw [map_snoc (ini ++ [last]) (last * q)]; exact upd_same
      · have c' : ¬ x % q = 0 := fun z => c (decide_eq_true z)
        exact ⟨_, x, _, rfl, b1, b2, b4.out c'⟩
    · rintro σ' H' ⟨pre, x, qq, rfl, a1, a2, a4⟩
      refine ⟨_, rfl, k _ l a1 hl ?_⟩
      rw [a4.done.1]
      exact a2
end
end Vg

set_option Elab.async false
set_option linter.all false
set_option maxRecDepth 100000
set_option maxHeartbeats 2000000
namespace Vg
open PySem PySem.Spec PyProof.Rows L2
-- a ≠ b; a place of a heap; what is kept
local macro_rules | `(tactic| walk_at "nq") => `(tactic| with_reducible first
  | assumption
  | (apply Ne.symm; assumption))
local macro_rules | `(tactic| walk_at "hp") => `(tactic| with_reducible first
  | assumption
  | exact upd_same
  | (refine Eq.trans (upd_ne ?_) ?_; (with_reducible walk_at "nq"); (with_reducible walk_at "hp")))
local macro_rules | `(tactic| walk_at "sm") => `(tactic| with_reducible first
  | assumption
  | exact Same.refl _
  | exact But.refl _ _
  | (refine sm_nw ?_ ?_; rotate_left; (with_reducible assumption); walk_at "sm")
  | (refine But.nw ?_ ?_; rotate_left; (with_reducible assumption); walk_at "sm")
  | (refine sm_own ?_ ?_; rotate_left; (with_reducible assumption); walk_at "sm")
  | (refine But.own ?_ ?_; rotate_left; (with_reducible assumption); walk_at "sm")
  | (refine But.wr ?_; walk_at "sm"))

section
variable {P : Program} {w : World} {K : PySem.W.Frag} {mg : Str → Option Value} {base : Heap}
theorem c_whole (D : DefAt K mg "is_whole" s_is_whole) (T : Txt K mg) :
    Cal P w K mg base 1 "is_whole" ["value"] (sp_whole K) := by
  refine cal_mk D sc_is_whole (fun _ _ _ _ _ _ _ us hl => match us, hl with | [_], _ => rfl)
    (fun vs H Q E h => ?_) (fun f cdv A outer s H vs Q hgu hr h => ?_)
  · obtain ⟨x, rfl, _⟩ := h; rfl
  · obtain ⟨x, rfl, ⟨t, bi, bb, ty, ki, kb, e⟩, k⟩ := h
    refine ⟨_,
      (pss_one (ps_ret (pe_and (pe_callB call_isi (by rfl) T.f_isinstance (by decide +kernel) (pa_cons (pv 0) (pa_cons (pe_ty (n := "int") (by rfl) T.f_int (by decide +kernel)) pa_nil))) (pe_one (pe_not (pe_callB call_isi (by rfl) T.f_isinstance (by decide +kernel) (pa_cons (pv 0) (pa_cons (pe_ty (n := "bool") (by rfl) T.f_bool (by decide +kernel)) pa_nil))))))))
      , ?_⟩
    refine ⟨_, rfl, x, _, t, _, bi, rfl, .ty "int", ty, ki, _, rfl, ?_⟩
    rw [← e] at k
    cases bi with
    | false => exact iteF k
    | true =>
      refine iteT ⟨_, rfl, x, _, t, _, bb, rfl, .ty "bool", ty, kb, _, rfl, ?_⟩
      exact k
theorem c_between (D : DefAt K mg "is_between" s_is_between) (T : Txt K mg)
    (c_is_whole : Cal P w K mg base 1 "is_whole" ["value"] (sp_whole K)) :
    Cal P w K mg base 2 "is_between" ["value", "low", "high"] (sp_between K) := by
  refine cal_mk D sc_is_between (fun _ _ _ _ _ _ _ us hl => match us, hl with | [_, _, _], _ => rfl)
    (fun vs H Q E h => ?_) (fun f cdv A outer s H vs Q hgu hr h => ?_)
  · obtain ⟨x, lo, hi, rfl, _⟩ := h; rfl
  · obtain ⟨x, lo, hi, rfl, kd, k⟩ := h
    refine ⟨_,
      (pss_one (ps_ret (pe_and (pe_cal c_is_whole hgu (hr.mono (by decide)) (pa_cons (pv 0) pa_nil)) (pe_one (pe_chain op_le op_le (pv 1) (pv 0) (pv 2))))))
      , ?_⟩
    refine ⟨_, rfl, x, rfl, kd, _, rfl, ?_⟩
    cases x with
    | int n =>
      refine iteT ⟨_, rfl, _, rfl, _, _, rfl, rfl, _, rfl, ite2 (fun c => ?_) (fun c => ?_)⟩
      · refine ⟨_, rfl, _, _, rfl, rfl, ?_⟩
        have e : betw (.int n) lo hi = decide (n ≤ hi) := by
          show (decide (lo ≤ n) && decide (n ≤ hi)) = _
          rw [c]; rfl
        rw [e] at k
        exact k
      · have e : betw (.int n) lo hi = false := by
          show (decide (lo ≤ n) && decide (n ≤ hi)) = _
          rw [Bool.eq_false_iff.mpr c]; rfl
        rw [e] at k
        exact k
    | _ => exact iteF k
theorem c_ismod (D : DefAt K mg "is_modulus" s_is_modulus) (T : Txt K mg)
    (c_is_between : Cal P w K mg base 2 "is_between" ["value", "low", "high"] (sp_between K))
    (c_chain : Cal P w K mg base 1 "chain" ["m"] sp_chain) :
    Cal P w K mg base 3 "is_modulus" ["value"] (sp_ismod K) := by
  refine cal_mk D sc_is_modulus (fun _ _ _ _ _ _ _ us hl => match us, hl with | [_], _ => rfl)
    (fun vs H Q E h => ?_) (fun f cdv A outer s H vs Q hgu hr h => ?_)
  · obtain ⟨x, rfl, _⟩ := h; rfl
  · obtain ⟨x, rfl, kd, k⟩ := h
    refine ⟨_,
      (pss_one (ps_ret (pe_and (pe_cal c_is_between hgu (hr.mono (by decide)) (pa_cons (pv 0) (pa_cons pe_int (pa_cons (pe_globI rfl T.g_MAX_MODULUS) pa_nil)))) (pe_one (pe_cmpR op_eq (pe_ix ix_list (pe_cal c_chain hgu (hr.mono (by decide)) (pa_cons (pv 0) pa_nil)) (pe_un un_neg pe_int) (fun _ _ => rfl)) (pv 0) (nomark _))))))
      , ?_⟩
    refine ⟨_, rfl, x, 2, 1000000000, rfl, kd, _, rfl, ?_⟩
    cases hb : betw x 2 1000000000 with
    | false =>
      refine iteF ?_
      have e : isModV x = false := by
        cases x with
        | int n =>
          have z : (decide (2 ≤ n) && decide (n ≤ 1000000000)) = false := hb
          show (decide (2 ≤ n) && decide (n ≤ 1000000000) && decide ((goAll P6 n 1).1 = 1)) = false
          rw [z]; rfl
        | _ => rfl
      have k2 := k H (Same.refl _)
      rw [e] at k2
      exact k2
    | true =>
      cases x with
      | int n =>
        have z : (decide (2 ≤ n) && decide (n ≤ 1000000000)) = true := hb
        obtain ⟨z1, z2⟩ := Bool.and_eq_true_iff.mp z
        have z1 := of_decide_eq_true z1
        have z2 := of_decide_eq_true z2
        refine iteT ⟨_, rfl, n, rfl, by omega, z2, ?_⟩
        intro H1 l s1 l0 g1
        obtain ⟨ini, last, e1, e2, e3, e4⟩ := chain_last (m := n) (by omega)
        rw [e1] at g1
        refine ⟨_, rfl, l, _, _, _, rfl, rfl, SqL.of g1, at_last, _, rfl, rfl, ?_⟩
        have k2 := k H1 s1
        have e : isModV (.int n) = decide (V.int last = V.int n) := by
          show (decide (2 ≤ n) && decide (n ≤ 1000000000) && decide ((goAll P6 n 1).1 = 1)) = _
          rw [eq0, decide_eq_true z1, decide_eq_true z2]
          show decide ((goAll P6 n 1).1 = 1) = decide (last = n)
          generalize (goAll P6 n 1).1 = x at e2 e4
          by_cases c : x = 1
          · have : last = n := by rw [c] at e2; omega
            rw [decide_eq_true c, decide_eq_true this]
          · have : ¬ last = n := by
              intro q
              have h2 := Int.mul_le_mul_of_nonneg_left (show 2 ≤ x by omega) (show 0 ≤ last by omega)
              omega
            rw [decide_eq_false c, decide_eq_false this]
        rw [e] at k2
        exact k2
      | _ => cases hb
theorem c_lismod (D : DefAt K mg "_law_is_modulus" s__law_is_modulus) (T : Txt K mg) :
    Cal P w K mg base 1 "_law_is_modulus" ["value"] (sp_ismod K) := by
  refine cal_mk D sc__law_is_modulus (fun _ _ _ _ _ _ _ us hl => match us, hl with | [_], _ => rfl)
    (fun vs H Q E h => ?_) (fun f cdv A outer s H vs Q hgu hr h => ?_)
  · obtain ⟨x, rfl, _⟩ := h; rfl
  · obtain ⟨x, rfl, ⟨t, bi, bb, ty, ki, kb, e⟩, k⟩ := h
    have cpow : CPow 10 9 := ⟨by decide, by decide, by decide⟩
    refine ⟨_,
      (pss_cons (ps_if (PW.pt (pw_or (pt_not (pt_val (pe_callB call_isi (by rfl) T.f_isinstance (by decide +kernel) (pa_cons (pv 0) (pa_cons (pe_ty (n := "int") (by rfl) T.f_int (by decide +kernel)) pa_nil))))) (pw_or (pt_val (pe_callB call_isi (by rfl) T.f_isinstance (by decide +kernel) (pa_cons (pv 0) (pa_cons (pe_ty (n := "bool") (by rfl) T.f_bool (by decide +kernel)) pa_nil)))) (pw_or (pt_cmpR op_lt (pv 0) pe_int (nomark _)) (pw_or1 (pt_cmpR op_gt (pv 0) (pe_op op_pow pe_int pe_int) (nomark _))))))) (pss_one (ps_ret pe_bl)) pss_nil)
      (pss_cons (ps_for PassesOwn.never rfl (pi_tup (pe_tup (pa_cons pe_int (pa_cons pe_int (pa_cons pe_int (pa_cons pe_int (pa_cons pe_int (pa_cons pe_int pa_nil)))))))) (pg_name (i := 1) sc__law_is_modulus.nd rfl (Or.inl rfl))
        (pss_one (ps_while PassesOwn.never (pt_cmpR op_eq (pe_op op_modN (pv 0) (pv 1)) pe_int (nomark _))
            (pss_one (ps_set (i := 0) sc__law_is_modulus.nd rfl (Or.inl rfl) (pe_op op_fdivN (pv 0) (pv 1)))))))
      (pss_one (ps_ret (pe_cmpR op_eq (pv 0) pe_int (nomark _))))))
      , ?_⟩
    refine ⟨_, rfl, x, _, t, _, bi, rfl, .ty "int", ty, ki, _, rfl, ?_⟩
    have no : isModV x = false → Q (.bl false) H := fun z => by
      have k2 := k H (Same.refl _)
      rw [z] at k2
      exact k2
    cases bi with
    | false =>
      refine iteT (iteT (no ?_))
      cases x with
      | int n => cases e
      | _ => rfl
    | true =>
      refine iteF ⟨_, rfl, x, _, t, _, bb, rfl, .ty "bool", ty, kb, _, rfl, ?_⟩
      cases bb with
      | true =>
        refine iteT (iteT (no ?_))
        cases x with
        | int n => cases e
        | _ => rfl
      | false =>
        cases x with
        | int n =>
          refine iteF ⟨_, rfl, _, _, rfl, rfl, _, rfl, ite2 (fun c => ?_) (fun c => ?_)⟩
          · refine iteT (no ?_)
            have c' : n < 2 := of_decide_eq_true c
            show (decide (2 ≤ n) && decide (n ≤ 1000000000) && decide ((goAll P6 n 1).1 = 1)) = false
            rw [decide_eq_false (show ¬ 2 ≤ n by omega)]; rfl
          have c' : ¬ n < 2 := fun z => c (decide_eq_true z)
          refine ⟨_, rfl, _, _, rfl, rfl, cpow, _, _, rfl, rfl, _, rfl, ite2 (fun c2 => ?_) (fun c2 => ?_)⟩
          · refine no ?_
            have c3 : (10 : Int) ^ (9 : Int).toNat < n := of_decide_eq_true c2
            have e9 : (10 : Int) ^ (9 : Int).toNat = 1000000000 := by decide
            show (decide (2 ≤ n) && decide (n ≤ 1000000000) && decide ((goAll P6 n 1).1 = 1)) = false
            rw [decide_eq_false (show ¬ n ≤ 1000000000 by omega), Bool.and_false]; rfl
          have c3 : ¬ (10 : Int) ^ (9 : Int).toNat < n := fun z => c2 (decide_eq_true z)
          have e9 : (10 : Int) ^ (9 : Int).toNat = 1000000000 := by decide
          rw [e9] at c3
          have n0 : 0 < n := by omega
          refine ⟨(by show 6 ≤ sizeLine; decide), fun t ht => ?_⟩
          refine ⟨t, rfl, ⟨_, SqT.of upd_same⟩, for_tup (K := K) (a := t) (xs := [V.int 2, .int 3, .int 5, .int 7, .int 11, .int 13])
            (fun i σ' H' => ∃ (pre : List Int) (x : Int) (qq : Option V), σ' = [some (.int x), qq] ∧ Same H H' ∧
              H' t = some (.tup [V.int 2, .int 3, .int 5, .int 7, .int 11, .int 13]) ∧ Way n (P6.drop i) pre x) ?_ ?_ ?_ ?_⟩
          · exact ⟨[1], n, none, rfl, by walk_at "sm", upd_same, Way.start (by omega)⟩
          · rintro i σ' H' _ ⟨pre, x, qq, rfl, a1, a3, a4⟩
            exact SqT.of a3
          · rintro i v σ' H' hi ⟨pre, x, qq, rfl, a1, a3, a4⟩
            obtain ⟨q, rfl, hd, hq2, hq13⟩ := p6_drop hi
            rw [hd] at a4
            refine ⟨fun j σ2 H2 => ∃ (pre : List Int) (x : Int), σ2 = [some (.int x), some (.int q)] ∧ j = x.toNat ∧ Same H H2 ∧
              H2 t = some (.tup [V.int 2, .int 3, .int 5, .int 7, .int 11, .int 13]) ∧ WayQ n q (P6.drop (i + 1)) pre x,
              ⟨_, pre, x, rfl, rfl, a1, a3, a4.q⟩, ?_⟩
            rintro j σ2 H2 ⟨pre, x, rfl, rfl, b1, b3, b4⟩
            obtain ⟨ini, last, rfl, e1, e2, e3⟩ := b4.last
            refine ⟨_, rfl, _, rfl, _, _, rfl, rfl, (by show q ≠ 0; omega), rfl, _, rfl, ?_⟩
            rw [eq0, Int.fmod_eq_emod_of_nonneg _ (by omega)]
            refine ite2 (fun c => ?_) (fun c => ?_)
            · have c' : x % q = 0 := of_decide_eq_true c
              have dt := div_turn b4.pos hq2 c'
              have hlt : x / q < x := Int.ediv_lt_self_of_pos_of_ne_one b4.pos (by omega)
              have b5 := b4.turn rfl hq2 c'
              have ed : x.fdiv q = x / q := Int.fdiv_eq_ediv_of_nonneg _ (by omega)
              refine ⟨_, fun _ _ z => z, ?_⟩
              refine ⟨_, rfl, _, rfl, _, _, rfl, rfl, ⟨by omega, by omega⟩, ?_⟩
              exact ⟨_, by rw [ed]; omega, _, x.fdiv q, rfl, rfl, b1, b3, by rw [ed]; exact b5⟩
            · have c' : ¬ x % q = 0 := fun z => c (decide_eq_true z)
              exact ⟨_, x, _, rfl, b1, b3, b4.out c'⟩
          · rintro σ' H' ⟨pre, x, qq, rfl, a1, a3, a4⟩
            refine ⟨_, rfl, rfl, ?_⟩
            have k2 := k H' a1
            have ee : isModV (.int n) = decide (V.int x = V.int 1) := by
              show (decide (2 ≤ n) && decide (n ≤ 1000000000) && decide ((goAll P6 n 1).1 = 1)) = _
              rw [a4.done.2, eq0, decide_eq_true (show 2 ≤ n by omega), decide_eq_true (show n ≤ 1000000000 by omega)]
              rfl
            rw [ee] at k2
            exact k2
        | _ => cases e
end
end Vg

set_option Elab.async false
set_option linter.all false
set_option maxRecDepth 100000
set_option maxHeartbeats 2000000
namespace Vg
open PySem PySem.Spec PyProof.Rows L2
-- a ≠ b; a place of a heap; what is kept
local macro_rules | `(tactic| walk_at "nq") => `(tactic| with_reducible first
  | assumption
  | (apply Ne.symm; assumption))
local macro_rules | `(tactic| walk_at "hp") => `(tactic| with_reducible first
  | assumption
  | exact upd_same
  | (refine Eq.trans (upd_ne ?_) ?_; (with_reducible walk_at "nq"); (with_reducible walk_at "hp")))
local macro_rules | `(tactic| walk_at "sm") => `(tactic| with_reducible first
  | assumption
  | exact Same.refl _
  | exact But.refl _ _
  | (refine sm_nw ?_ ?_; rotate_left; (with_reducible assumption); walk_at "sm")
  | (refine But.nw ?_ ?_; rotate_left; (with_reducible assumption); walk_at "sm")
  | (refine sm_own ?_ ?_; rotate_left; (with_reducible assumption); walk_at "sm")
  | (refine But.own ?_ ?_; rotate_left; (with_reducible assumption); walk_at "sm")
  | (refine But.wr ?_; walk_at "sm"))

def sp_law (K : PySem.W.Frag) : Sp := fun vs H Q _ => ∃ (a : Addr) (ns : List Int), vs = [.ref a] ∧ SqL K H a (ns.map V.int) ∧ ns.length ≤ 63 ∧
  ∀ H', Q (.bl true) H'
section
variable {P : Program} {w : World} {K : PySem.W.Frag} {mg : Str → Option Value} {base : Heap}
theorem body_law (T : Txt K mg)
    (c__law_pen : Cal P w K mg base 1 "_law_pen" ["script"] (sp_pen K))
    (c__law_draw : Cal P w K mg base 1 "_law_draw" ["pen", "many"] sp_draw)
    (c__law_pick : Cal P w K mg base 2 "_law_pick" ["pen", "some"] (sp_pick K))
    (c__law_modulus : Cal P w K mg base 3 "_law_modulus" ["pen", "most"] sp_modulus)
    (c_chain : Cal P w K mg base 1 "chain" ["m"] sp_chain)
    (c__law_chain : Cal P w K mg base 1 "_law_chain" ["m"] sp_chain)
    (c_is_modulus : Cal P w K mg base 3 "is_modulus" ["value"] (sp_ismod K))
    (c__law_is_modulus : Cal P w K mg base 1 "_law_is_modulus" ["value"] (sp_ismod K))
    (f : Addr) (cdv : Value) (A : Around) (outer : List Env) (s : Shared) (H : Hp) (vs : List V) (Q : VK)
    (hgu : (Cb P w K mg base ["script", "pen", "bout", "m", "turn", "told", "some", "value"] "law" (defScope s_law) f cdv A outer s H).A.guards = some [])
    (hr : Room 3 (Cb P w K mg base ["script", "pen", "bout", "m", "turn", "told", "some", "value"] "law" (defScope s_law) f cdv A outer s H).A)
    (h : sp_law K vs H Q E0) :
    ∃ t, PSs (Cb P w K mg base ["script", "pen", "bout", "m", "turn", "told", "some", "value"] "law" (defScope s_law) f cdv A outer s H).nox (defBody s_law) t ∧
        t { nx := fun _ H' => Q .non H', rt := Q } (start ["script", "pen", "bout", "m", "turn", "told", "some", "value"] vs) H := by
  obtain ⟨a, ns, rfl, hS, hl, k⟩ := h
  refine ⟨_,
    (pss_cons (ps_set (i := 1) sc_law.nd rfl (Or.inl rfl) (pe_cal c__law_pen hgu (hr.mono (by decide)) (pa_cons (pv 0) pa_nil)))
      (pss_cons (ps_for PassesOwn.never rfl (pi_range1 (by rfl) T.f_range (pa_cons (pe_op op_add pe_int (pe_callB (call_min2 rfl) (by rfl) T.f_min (by decide +kernel) (pa_cons pe_int (pa_cons (pe_callB call_len_seq (by rfl) T.f_len (by decide +kernel) (pa_cons (pv 0) pa_nil)) pa_nil)))) pa_nil)) (pg_name (i := 2) sc_law.nd rfl (Or.inl rfl))
        (pss_cons (ps_set (i := 3) sc_law.nd rfl (Or.inl rfl) (pe_cal c__law_modulus hgu (hr.mono (by decide)) (pa_cons (pv 1) (pa_cons (pe_cal c__law_pick hgu (hr.mono (by decide)) (pa_cons (pv 1) (pa_cons (pe_lst (pa_cons pe_int (pa_cons pe_int (pa_cons (pe_op op_pow pe_int pe_int) pa_nil)))) pa_nil))) pa_nil))))
        (pss_cons (ps_for PassesOwn.never rfl (pi_range1 (by rfl) T.f_range (pa_cons pe_int pa_nil)) (pg_name (i := 4) sc_law.nd rfl (Or.inl rfl))
          (pss_cons (ps_set (i := 5) sc_law.nd rfl (Or.inl rfl) (pe_cal c_chain hgu (hr.mono (by decide)) (pa_cons (pv 3) pa_nil)))
          (pss_cons (ps_if (pt_cmpR op_ne (pe_callB (call_repr hgu hr.units) (by rfl) T.f_repr (by decide +kernel) (pa_cons (pv 5) pa_nil)) (pe_callB (call_repr hgu hr.units) (by rfl) T.f_repr (by decide +kernel) (pa_cons (pe_cal c__law_chain hgu (hr.mono (by decide)) (pa_cons (pv 3) pa_nil)) pa_nil)) (nomark _)) (pss_one (ps_ret pe_bl)) pss_nil)
          (pss_one (ps_expr (pe_bm PySem.F.plainAttrs_list PySem.F.slot_list_append PySem.F.type_list_append mt_append (pv 5) (pa_cons pe_int pa_nil)))))))
        (pss_cons (ps_set (i := 6) sc_law.nd rfl (Or.inl rfl) (pe_lst (pa_cons (pv 3) (pa_cons (pe_op op_add (pv 3) pe_int) (pa_cons (pe_op op_sub (pv 3) pe_int) (pa_cons (pe_op op_mul pe_int (pv 3)) (pa_cons (pe_op op_mul (pv 3) (pv 3)) (pa_cons pe_int (pa_cons pe_int (pa_cons pe_int (pa_cons (pe_un un_neg (pv 3)) (pa_cons (pe_op op_pow pe_int pe_int) (pa_cons (pe_op op_add (pe_op op_pow pe_int pe_int) pe_int) (pa_cons (pe_op op_pow pe_int pe_int) (pa_cons (pe_op op_pow pe_int pe_int) (pa_cons (pe_op op_pow pe_int pe_int) pa_nil))))))))))))))))
        (pss_cons (ps_set (i := 6) sc_law.nd rfl (Or.inl rfl) (pe_op op_cat (pv 6) (pe_lst (pa_cons (pe_op op_pow pe_int pe_int) (pa_cons pe_int (pa_cons (pe_cal c__law_draw hgu (hr.mono (by decide)) (pa_cons (pv 1) (pa_cons pe_int pa_nil))) (pa_cons (pe_cal c__law_draw hgu (hr.mono (by decide)) (pa_cons (pv 1) (pa_cons (pe_op op_pow pe_int pe_int) pa_nil))) (pa_cons (pe_op op_pow pe_int pe_int) (pa_cons pe_non (pa_cons pe_bl pa_nil))))))))))
        (pss_cons (ps_set (i := 6) sc_law.nd rfl (Or.inl rfl) (pe_op op_cat (pv 6) (pe_lst (pa_cons pe_bl (pa_cons pe_str (pa_cons pe_str (pa_cons (pe_tup pa_nil) (pa_cons (pe_tup (pa_cons (pv 3) pa_nil)) (pa_cons (pe_lst (pa_cons (pv 3) pa_nil)) (pa_cons pe_dnewK pa_nil))))))))))
        (pss_one (ps_for PassesOwn.never rfl (pi_list (pv 6)) (pg_name (i := 7) sc_law.nd rfl (Or.inl rfl))
            (pss_one (ps_if (pt_cmpR op_ne (pe_callB (call_repr hgu hr.units) (by rfl) T.f_repr (by decide +kernel) (pa_cons (pe_cal c_is_modulus hgu (hr.mono (by decide)) (pa_cons (pv 7) pa_nil)) pa_nil)) (pe_callB (call_repr hgu hr.units) (by rfl) T.f_repr (by decide +kernel) (pa_cons (pe_cal c__law_is_modulus hgu (hr.mono (by decide)) (pa_cons (pv 7) pa_nil)) pa_nil)) (nomark _)) (pss_one (ps_ret pe_bl)) pss_nil))))))))))
      (pss_one (ps_ret pe_bl))))
    , ?_⟩
  refine ⟨_, rfl, a, ns, rfl, hS, hl, ?_⟩
  intro H1 p L s1 p0 L0 pn1
  have cpow : CPow 10 9 := ⟨by decide, by decide, by decide⟩
  refine ⟨_, rfl, a, _, rfl, .inl (s1.seq hS), 8, _, rfl, _, _, rfl, rfl, _, rfl, ?_, ?_, for_range (n := (4 + (if ((ns.map V.int).length : Int) < 8 then ((ns.map V.int).length : Int) else 8)).toNat)
    (fun i σ' H' => ∃ (o1 o2 o3 o4 o5 o6 : Option V), σ' = [some (.ref a), some (.ref p), o1, o2, o3, o4, o5, o6] ∧ PenAt H' p L (i * 30)) ?_ ?_ ?_⟩
  · rw [List.length_map]; split <;> omega
  · rw [List.length_map]; split <;> omega
  · exact ⟨none, none, none, none, none, none, rfl, pn1⟩
  · rintro i σ' H' hi ⟨o1, o2, o3, o4, o5, o6, rfl, pn2⟩
    have hi2 : i < 12 := by
      rw [List.length_map] at hi
      split at hi <;> omega
    -- m
    refine ⟨_, rfl, _, rfl, _, _, rfl, rfl, cpow, (by show 3 ≤ sizeLine; decide), fun q hq => ?_⟩
    refine ⟨p, L, q, _, _, rfl, pn2.new hq, by omega, .inl (SqL.of upd_same), pn2.ne_n hq, by decide, by decide, ?_⟩
    intro H2 v b2 pn3 hv
    obtain ⟨most, rfl, hm2, hm9⟩ : ∃ most : Int, v = .int most ∧ 2 ≤ most ∧ most ≤ 1000000000 := by
      simp only [List.mem_cons, List.mem_nil_iff, or_false] at hv
      rcases hv with rfl | rfl | rfl
      · exact ⟨60, rfl, by decide, by decide⟩
      · exact ⟨5000, rfl, by decide, by decide⟩
      · exact ⟨_, rfl, by decide, by decide⟩
    refine ⟨p, L, _, most, rfl, pn3, by omega, hm2, hm9, ?_⟩
    intro H3 m b3 pn4 m2 mm _
    have hsm := chain_small (m := m) (by omega) (by omega)
    have hsn : ∀ z ∈ chainL m, z.natAbs < 1000000000000 := fun z hz => by have := hsm.2 z hz; omega
    -- the chain, twice
    refine ⟨2, rfl, by decide, by decide, for_range (n := 2)
      (fun j σ' H' => ∃ (o3 o4 : Option V), σ' = [some (.ref a), some (.ref p), some (.int (0 + i)), some (.int m), o3, o4, o5, o6] ∧ PenAt H' p L (i * 30 + 21)) ?_ ?_ ?_⟩
    · exact ⟨o3, o4, rfl, pn4⟩
    · rintro j σ' H4 hj ⟨o3, o4, rfl, pn5⟩
      refine ⟨_, rfl, m, rfl, by omega, by omega, ?_⟩
      intro H5 l s5 l0 g5
      have r5 := rp_ints (K := K) (SqL.of g5) hsn (by omega)
      refine ⟨_, rfl, _, _, rfl, r5.dp, r5.sh, r5.de, r5.le, ?_⟩
      refine ⟨_, rfl, m, rfl, by omega, by omega, ?_⟩
      intro H6 l2 s6 l20 g6
      have r6 := rp_ints (K := K) (SqL.of g6) hsn (by omega)
      refine ⟨_, _, rfl, r6.dp, r6.sh, r6.de, r6.le, rfl, _, rfl, iteNS rfl ?_⟩
      have g5' := s6 _ _ g5
      refine ⟨_, rfl, .inl ⟨rfl, _, SqL.of g5'⟩, l, _, _, rfl, rfl, g5', ?_, ?_⟩
      · rw [List.length_map]
        exact Nat.lt_of_le_of_lt hsm.1 (by decide)
      · exact ⟨_, _, rfl, ((pn5.same s5).same s6).wr (pn5.ne_n l0) (pn5.ne_nL l0)⟩
    · rintro σ' H4 ⟨o3, o4, rfl, pn5⟩
      -- the values
      have m31 : m < 2147483648 := by omega
      refine ⟨_, rfl, _, rfl, _, _, rfl, rfl, _, rfl, _, _, rfl, rfl, _, rfl, _, _, rfl, rfl, .inl ⟨by omega, by omega⟩, _, rfl, _, rfl, _, _, rfl, rfl, .inl ⟨by omega, by omega⟩, _, rfl, _, rfl, _, _, rfl, rfl, cpow,
        _, _, rfl, rfl, cpow, _, _, rfl, rfl, _, _, rfl, rfl, ⟨by decide, by decide, by decide⟩, _, _, rfl, rfl, ⟨by decide, by decide, by decide⟩, _, _, rfl, rfl, ⟨by decide, by decide, by decide⟩, (by show 14 ≤ sizeLine; decide), fun u hu => ?_⟩
      refine ⟨_, rfl, _, _, rfl, rfl, ⟨by decide, by decide, by decide⟩, _, rfl, p, L, _, 2000, rfl, pn5.new hu, by omega, by decide, by decide, ?_⟩
      intro H5 d5 b5 pn7 _ _
      have nup := pn5.ne_n hu
      have g5 := b5 _ _ nup upd_same
      refine ⟨_, rfl, _, _, rfl, rfl, cpow, p, L, _, _, rfl, pn7, by omega, by decide, by decide, ?_⟩
      intro H6 d6 b6 pn8 _ _
      have g6 := b6 _ _ nup g5
      refine ⟨_, _, rfl, rfl, ⟨by decide, by decide, by decide⟩, (by show 7 ≤ sizeLine; decide), fun u2 hu2 => ?_⟩
      have nu2 : u ≠ u2 := ne_of_none g6 hu2
      refine ⟨u, u2, _, _, rfl, rfl, (upd_ne nu2).trans g6, upd_same, (by show 14 + 7 ≤ sizeLine; decide), fun u3 hu3 => ?_⟩
      refine ⟨_, rfl, Nat.zero_le _, fun t1 h1 => ?_⟩
      have n31 : u3 ≠ t1 := ne_of_none upd_same h1
      refine ⟨_, rfl, (by show 1 ≤ sizeLine; decide), fun t2 h2 => ?_⟩
      have n12 : t1 ≠ t2 := ne_of_none upd_same h2
      have n32 : u3 ≠ t2 := ne_of_none ((upd_ne n31).trans upd_same) h2
      refine ⟨_, rfl, (by show 1 ≤ sizeLine; decide), fun t3 h3 => ?_⟩
      have n23 : t2 ≠ t3 := ne_of_none upd_same h3
      have n13 : t1 ≠ t3 := ne_of_none ((upd_ne n12).trans upd_same) h3
      have n33 : u3 ≠ t3 := ne_of_none ((upd_ne n32).trans ((upd_ne n31).trans upd_same)) h3
      intro t4 h4
      have n34 : t3 ≠ t4 := ne_of_none upd_same h4
      have n24 : t2 ≠ t4 := ne_of_none ((upd_ne n23).trans upd_same) h4
      have n14 : t1 ≠ t4 := ne_of_none ((upd_ne n13).trans ((upd_ne n12).trans upd_same)) h4
      have n3b : u3 ≠ t4 := ne_of_none ((upd_ne n33).trans ((upd_ne n32).trans ((upd_ne n31).trans upd_same))) h4
      refine ⟨(by show 7 ≤ sizeLine; decide), fun u4 hu4 => ?_⟩
      have n44 : t4 ≠ u4 := ne_of_none upd_same hu4
      have n34' : t3 ≠ u4 := ne_of_none ((upd_ne n34).trans upd_same) hu4
      have n24' : t2 ≠ u4 := ne_of_none ((upd_ne n24).trans ((upd_ne n23).trans upd_same)) hu4
      have n14' : t1 ≠ u4 := ne_of_none ((upd_ne n14).trans ((upd_ne n13).trans ((upd_ne n12).trans upd_same))) hu4
      have n3b' : u3 ≠ u4 := ne_of_none ((upd_ne n3b).trans ((upd_ne n33).trans ((upd_ne n32).trans ((upd_ne n31).trans upd_same)))) hu4
      refine ⟨u3, u4, _, _, rfl, rfl, (upd_ne n3b').trans ((upd_ne n3b).trans ((upd_ne n33).trans ((upd_ne n32).trans ((upd_ne n31).trans upd_same)))), upd_same, (by show 21 + 7 ≤ sizeLine; decide), fun u5 hu5 => ?_⟩
      have n45 : u4 ≠ u5 := ne_of_none upd_same hu5
      have n4u : t4 ≠ u5 := ne_of_none ((upd_ne n44).trans upd_same) hu5
      have n3u : t3 ≠ u5 := ne_of_none ((upd_ne n34').trans ((upd_ne n34).trans upd_same)) hu5
      have n2u : t2 ≠ u5 := ne_of_none ((upd_ne n24').trans ((upd_ne n24).trans ((upd_ne n23).trans upd_same))) hu5
      have n1u : t1 ≠ u5 := ne_of_none ((upd_ne n14').trans ((upd_ne n14).trans ((upd_ne n13).trans ((upd_ne n12).trans upd_same)))) hu5
      generalize hHs : upd _ u5 _ = Hs
      have q1 : Hs t1 = some (.tup []) := by rw [← hHs]; exact (upd_ne n1u).trans ((upd_ne n14').trans ((upd_ne n14).trans ((upd_ne n13).trans ((upd_ne n12).trans upd_same))))
      have q2 : Hs t2 = some (.tup [.int m]) := by rw [← hHs]; exact (upd_ne n2u).trans ((upd_ne n24').trans ((upd_ne n24).trans ((upd_ne n23).trans upd_same)))
      have q3 : Hs t3 = some (.lst [.int m]) := by rw [← hHs]; exact (upd_ne n3u).trans ((upd_ne n34').trans ((upd_ne n34).trans upd_same))
      have q4 : Hs t4 = some (.dK []) := by rw [← hHs]; exact (upd_ne n4u).trans ((upd_ne n44).trans upd_same)
      have pnF : PenAt Hs p L (i * 30 + 23) := by
        rw [← hHs]
        exact (((((((pn8.new hu2).new hu3).new h1).new h2).new h3).new h4).new hu4).new hu5
      have q5 := congrFun hHs u5
      rw [upd_same] at q5
      clear hHs
      refine ⟨_, rfl, u5, rfl, ⟨_, SqL.of q5.symm⟩, for_list (K := K) (a := u5)
        (fun j σ' H' => ∃ o7 o8, σ' = [some (.ref a), some (.ref p), some (.int (0 + i)), some (.int m), o3, o4, o7, o8] ∧ Same Hs H')
        ⟨_, _, rfl, Same.refl _⟩ (fun j σ' H' _ ⟨_, _, _, z⟩ => z.seq (SqL.of q5.symm)) ?_ ?_⟩
      · rintro j v σ' H8 hj ⟨o7, o8, rfl, s8⟩
        have hv : Ks K Hs v := by
          refine (?_ : ∀ x ∈ _, Ks K Hs x) v (List.mem_of_getElem? hj)
          repeat' (first | exact ks_nil | refine ks_app ?_ ?_ | refine ks_cons ?_ ?_)
          all_goals first
            | exact ks_int _
            | exact ks_bl _
            | exact ks_non
            | exact ks_str _
            | exact ks_tup q1
            | exact ks_tup q2
            | exact ks_lst q3
            | exact ks_dK q4
        refine ⟨_, rfl, v, rfl, hv _ s8, fun H9 s9 => ?_⟩
        have r1 := rp_bool (K := K) (H := H9) (isModV v)
        refine ⟨_, _, rfl, r1.dp, r1.sh, r1.de, r1.le, ?_⟩
        refine ⟨_, rfl, v, rfl, hv _ (s8.trans s9), fun H10 s10 => ?_⟩
        have r2 := rp_bool (K := K) (H := H10) (isModV v)
        refine ⟨_, _, rfl, r2.dp, r2.sh, r2.de, r2.le, rfl, _, rfl, iteNS rfl ?_⟩
        exact ⟨_, _, rfl, (s8.trans s9).trans s10⟩
      · rintro σ' H8 ⟨o7, o8, rfl, s8⟩
        exact ⟨_, _, _, _, _, _, rfl, (pnF.same s8).mono (by omega)⟩
  · rintro σ' H' ⟨o1, o2, o3, o4, o5, o6, rfl, pn2⟩
    exact k _
end
end Vg

set_option Elab.async false
set_option linter.all false
set_option maxRecDepth 100000
set_option maxHeartbeats 0
namespace Vg
open PySem PySem.Spec PyProof.Rows L2
def fn : List He.DefD := [dOf "_law_pen" s__law_pen, dOf "_law_draw" s__law_draw, dOf "_law_pick" s__law_pick, dOf "_law_shuffled" s__law_shuffled,
  dOf "_law_modulus" s__law_modulus, dOf "_law_chain" s__law_chain, dOf "_law_is_modulus" s__law_is_modulus, dOf "chain" s_chain,
  dOf "is_modulus" s_is_modulus, dOf "is_between" s_is_between, dOf "is_whole" s_is_whole, dOf "law" s_law]
def fs : List (PySem.W.Frag → Bool) := [fun K => (He.Fa.glo "_law_pen").ok K, fun K => (He.Fa.glo "_law_draw").ok K, fun K => (He.Fa.glo "_law_pick").ok K,
  fun K => (He.Fa.glo "_law_shuffled").ok K, fun K => (He.Fa.glo "_law_modulus").ok K, fun K => (He.Fa.glo "_law_chain").ok K,
  fun K => (He.Fa.glo "_law_is_modulus").ok K, fun K => (He.Fa.glo "chain").ok K, fun K => (He.Fa.glo "is_modulus").ok K,
  fun K => (He.Fa.glo "is_between").ok K, fun K => (He.Fa.glo "is_whole").ok K, fun K => (He.Fa.glo "law").ok K,
  fun K => (He.Fa.free "len").ok K, fun K => (He.Fa.free "abs").ok K, fun K => (He.Fa.free "list").ok K, fun K => (He.Fa.free "range").ok K,
  fun K => (He.Fa.free "min").ok K, fun K => (He.Fa.free "isinstance").ok K, fun K => (He.Fa.free "int").ok K, fun K => (He.Fa.free "bool").ok K,
  fun K => (He.Fa.free "repr").ok K, fun K => (He.Fa.int "MAX_MODULUS" 1000000000).ok K, fun K => (He.Fa.glo "PRIMES").ok K,
  fun K => He.tupB K "PRIMES" [.int 2, .int 3, .int 5, .int 7, .int 11, .int 13]]
abbrev Rw : PySem.W.OpenRow := PySem.W.OpenLaw.row PySem.Challenge.rw_affinewalk_k01_moduli_and_chains
abbrev hk : PySem.W.Hook := hookX 4 fs fn
def ob (s : PySem.W.SharedT) : He.AlD := seenG 4 fs fn (HandSHeadRun.getT s)
theorem ob_eq (s : PySem.W.SharedT) : ob s = hk.obs s.abs := seenG_eq (HandSHeadRun.getT_eq s)
def loose : List PySem.Str := ["MAX_MODULUS", "is_whole", "is_between", "PRIMES", "is_modulus", "chain", "_law_pen", "_law_draw", "_law_pick", "_law_shuffled", "_law_modulus", "_law_chain", "_law_is_modulus"]
theorem run (w : World) : HandSHeadRun.RunEq Rw (PySem.W.view Rw.prog [16]) hk ob 4000 loose w := by
  intro os
  kernel_rfl
theorem facts {P : Program} {w : World} {K : PySem.W.Frag} {h : Heap} {mg : Str → Option Value} {f : Addr} (X : K.In h) (G : h.Ns mainGlobals mg)
    (hfa : mg ("law" : Str) = some (.ref f)) (c : SaysX fs fn K) :
    ∃ fd : FuncData, (∀ (s : Shared) (v : Value), BindsTo s fd ⟨[v], []⟩ [("script", v)]) ∧
      ∀ base : Heap, K.In base → base.Ns mainGlobals mg → FnG P w K mg base 4 f fd ["script"] (sp_law K) := by
  have d0 := defAt X G c (x := "_law_pen") (st := s__law_pen) 0 0
  have d1 := defAt X G c (x := "_law_draw") (st := s__law_draw) 1 1
  have d2 := defAt X G c (x := "_law_pick") (st := s__law_pick) 2 2
  have d3 := defAt X G c (x := "_law_shuffled") (st := s__law_shuffled) 3 3
  have d4 := defAt X G c (x := "_law_modulus") (st := s__law_modulus) 4 4
  have d5 := defAt X G c (x := "_law_chain") (st := s__law_chain) 5 5
  have d6 := defAt X G c (x := "_law_is_modulus") (st := s__law_is_modulus) 6 6
  have d7 := defAt X G c (x := "chain") (st := s_chain) 7 7
  have d8 := defAt X G c (x := "is_modulus") (st := s_is_modulus) 8 8
  have d9 := defAt X G c (x := "is_between") (st := s_is_between) 9 9
  have d10 := defAt X G c (x := "is_whole") (st := s_is_whole) 10 10
  obtain ⟨fd, F, hm⟩ := defAt X G c (x := "law") (st := s_law) 11 11
  have T : Txt K mg := {
    f_len := He.free_ok X G (c.fact 12)
    f_abs := He.free_ok X G (c.fact 13)
    f_list := He.free_ok X G (c.fact 14)
    f_range := He.free_ok X G (c.fact 15)
    f_min := He.free_ok X G (c.fact 16)
    f_isinstance := He.free_ok X G (c.fact 17)
    f_int := He.free_ok X G (c.fact 18)
    f_bool := He.free_ok X G (c.fact 19)
    f_repr := He.free_ok X G (c.fact 20)
    g_MAX_MODULUS := He.int_ok X G (c.fact 21)
    g_PRIMES := He.glo_ok X G (c.fact 22)
    primes := fun H => He.tupB_ok (c.fact 23) H }
  have e := hfa.symm.trans hm
  cases e
  have b := FunD.bindsA (ps := ["script"]) F fun _ _ _ _ _ _ us hl => match us, hl with | [_], _ => rfl
  refine ⟨fd, fun s v => b s [v] rfl, fun base _ _ => ?_⟩
  have cD := c_draw (P := P) (w := w) (base := base) d1 T
  have cP := c_pick (P := P) (w := w) (base := base) d2 T cD
  have cS := c_shuffled (P := P) (w := w) (base := base) d3 T cD
  have cM := c_modulus (P := P) (w := w) (base := base) d4 T cD cP cS
  have cC := c_chain (P := P) (w := w) (base := base) d7 T
  have cI := c_ismod (P := P) (w := w) (base := base) d8 T (c_between d9 T (c_whole d10 T)) cC
  refine FnG.mk_of F sc_law (fun vs H Q E h => ?_) (fun cdv A outer s H vs Q hgu hr h => ?_)
  · obtain ⟨a, ns, rfl, _⟩ := h; rfl
  · exact body_law T (c_pen d0 T) cD cP cM cC (c_lchain d5 T) cI (c_lismod d6 T) _ cdv A outer s H vs Q hgu hr h
end Vg
open PySem PySem.W PySem.Calls PyProof.Rows
theorem PySem.Challenge.cw_affinewalk_k01_moduli_and_chains_holds : PySem.Challenge.rw_affinewalk_k01_moduli_and_chains.Holds := by
  w_on; o_law
  refine HandSHeadRun.head_any (r := OpenLaw.row PySem.Challenge.rw_affinewalk_k01_moduli_and_chains) (q := view (OpenLaw.row PySem.Challenge.rw_affinewalk_k01_moduli_and_chains).prog [16]) (H := Vg.hk) (ob := Vg.ob) (M := 4000) (loose := Vg.loose)
    (d := HandSHeadRun.topDef (OpenLaw.row PySem.Challenge.rw_affinewalk_k01_moduli_and_chains).prog 16) (kwd := []) Vg.ob_eq
    (by kernel_rfl) (fun s => by kernel_rfl) Vg.run (by kernel_rfl) (by kernel_rfl) (by kernel_rfl) (by rfl) (by first | assumption | decide +kernel) (by decide +kernel) ⟨rfl, rfl, rfl, rfl, rfl, by decide +kernel⟩ ?hw ?hc
  case hw => w_witness2
  case hc =>
    refine Vg.walkG (l := PySem.Challenge.rw_affinewalk_k01_moduli_and_chains) (n := 63) (k := 4) (x := "script") rfl (by decide) (by kernel_rfl) ⟨rfl, by decide, by decide⟩ ?F
    intro w mg fa h Y G hmg0
    obtain ⟨K, KX, c⟩ := Y
    have hmg : mg ("law" : PySem.Str) = some (.ref fa) := by
      have e : (HandSHeadRun.topDef (OpenLaw.row PySem.Challenge.rw_affinewalk_k01_moduli_and_chains).prog 16).name = ("law" : PySem.Str) := by kernel_rfl
      rw [← e]
      exact hmg0
    obtain ⟨fd, hb, hF⟩ := Vg.facts (P := (PySem.Challenge.rw_affinewalk_k01_moduli_and_chains).prog) (w := w) KX G hmg c
    exact ⟨K, fd, Vg.sp_law K, KX, hb, fun H a ns hl _ _ hS => ⟨a, ns, rfl, hS, hl, fun _ => rfl⟩, hF⟩
#print axioms PySem.Challenge.cw_affinewalk_k01_moduli_and_chains_holds
