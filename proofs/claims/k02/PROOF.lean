import PyProof.Rows.All
import Wide.All
import OpenK.AllK
import Wide.FinOn
import HandS.ForMost
import HandS.Flow
import HandS.IsInst
import HandS.Defaults
import HandS.EndBits
import HandS.Wide
import HandS.Gcd
import HandS.WideBits
import HandS.SortInts
import HandS.Conv
import HandS.TupAny
import HandS.Style
import PyProof.ReprBulk
import HandS.HeadEnd
import HandS.HeadHook1
import HandS.HeadHook2
import HandS.Head0
import HandS.Head1
import HandS.Head2
import HandS.Head3
import PyProof.ReprRoads
import PySem.Challenge.RW_affinewalk_k02_values_that_are_maps
set_option Elab.async false
set_option linter.all false
set_option maxRecDepth 100000
set_option maxHeartbeats 2000000
/-! Own layer over HandS: promises of defs that may print lists (the guards that run around are none). -/
namespace Vg
open PySem PySem.Spec PyProof.Rows L2
/-! ### a def's promise where no guard runs around -/
structure FnG (P : Program) (w : World) (K : PySem.W.Frag) (mg : Str → Option Value)
    (base : Heap) (k : Nat) (f : Addr) (fd : FuncData) (ps : List Str) (sp : Sp) : Prop where
  len : ∀ vs H Q E, sp vs H Q E → vs.length = ps.length
  run : ∀ (A : Around) (outer : List Env) (s : Shared) (H : Hp) (args : Args)
    (us : List Value) (vs : List V) (Q : VK),
    A.guards = some [] → Room k A → Env0 P w K mg base A outer s H →
    BindsTo s fd args (ps.zip us) → Vals vs us → sp vs H Q E0 →
    codeAny (model P w) A (.call (.ref f) args) (CR CX0 outer P w H s Q E0) s
section
variable {P : Program} {w : World} {K : PySem.W.Frag} {mg : Str → Option Value} {base : Heap}
theorem FnG.of {k : Nat} {f : Addr} {fd : FuncData} {ps : List Str} {sp : Sp}
    (F : FnOk P w K mg base CX0 k f fd ps sp) : FnG P w K mg base k f fd ps sp :=
  ⟨F.len, fun A outer s H args us vs Q _ hr he hb hv hs =>
    F.run A outer s H args us vs Q E0 hr he hb hv hs⟩
theorem FnG.mono {j k : Nat} {f : Addr} {fd : FuncData} {ps : List Str} {sp : Sp}
    (F : FnG P w K mg base j f fd ps sp) (h : j ≤ k) : FnG P w K mg base k f fd ps sp :=
  ⟨F.len, fun A outer s H args us vs Q hg hr =>
    F.run A outer s H args us vs Q hg (hr.mono h)⟩
/-- the context of a def's body -/
abbrev Cb (P : Program) (w : World) (K : PySem.W.Frag) (mg : Str → Option Value) (base : Heap)
    (N : List Str) (qual : Str) (scope : Scope) (f : Addr) (cdv : Value) (A : Around)
    (outer : List Env) (s : Shared) (H : Hp) : Cx :=
  cxOf CX0 P w K mg base N qual scope f cdv A outer s H E0
/-- the rule for a def -/
theorem FnG.mk_of {x qual : Str} {params : Arguments} {body : List Stmt} {scope : Scope}
    {kws : List (Str × V)} {dvs : List V} {f : Addr} {fd : FuncData} {N ps : List Str} {k : Nat} {sp : Sp}
    (F : FunD K x qual params body scope dvs kws f fd) (S : FnScope N ps scope)
    (len : ∀ vs H Q E, sp vs H Q E → vs.length = ps.length)
    (hbody : ∀ (cdv : Value) (A : Around) (outer : List Env) (s : Shared) (H : Hp)
      (vs : List V) (Q : VK),
      (Cb P w K mg base N qual scope f cdv A outer s H).A.guards = some [] →
      Room k (Cb P w K mg base N qual scope f cdv A outer s H).A → sp vs H Q E0 →
      ∃ t, PSs (Cb P w K mg base N qual scope f cdv A outer s H).nox body t ∧
        t { nx := fun _ H' => Q .non H', rt := Q } (start N vs) H) :
    FnG P w K mg base (k + 1) f fd ps sp := by
  obtain ⟨oc, od, dV, kV, doc, pm, an, cdv, ct, osl, rfl, lk, hcd, _, _⟩ := F.ex
  refine ⟨len, ?_⟩
  intro A outer s H args us vs Q hgu hr e0 hb r hsp
  have hln := len _ _ _ _ hsp
  have old : ∀ b o, base.get? b = some o → s.heap.get? b = some o :=
    fun b o e => (e0.bs b o e).1
  have KX : K.In s.heap := e0.mod.kin.keeps old
  have lim : s.heap.NoLimit := e0.mod.nolimit.keeps old
  have hk : ∀ y ∈ ps.zip us, scope.names.lookup y.1 = some .local ∨
      (scope.names.lookup y.1 = some .cell ∧
        ((cellsFrom (s.heap.objs.size + 1) scope.names []).lookup y.1).isSome = true) := by
    rintro ⟨n, v⟩ hy
    have hp := S.par n (List.of_mem_zip hy).1
    cases hp with
    | inl q => exact Or.inl q
    | inr q => exact Or.inr ⟨q, PySem.W.cellsFrom_some _ _ _ (Or.inl q)⟩
  have hcr := PySem.W.codeRec_of KX hcd
  refine codeAny_call_function hr.depth (KX _ _ lk)
    rfl S.co S.gen rfl hcr (hb _ _ _ _ ?_)
  refine wpAny_newFunctionEnv_cells S.kind hk ?_
  intro env he s1 x
  subst he
  refine ⟨lim.keeps x.toInCall.keep, codeAny_func ?_⟩
  obtain ⟨t, ht, hq⟩ := hbody cdv A outer s H vs Q hgu (hr.deeper _) hsp
  have I := inv_start (CX := CX0) (E := E0) S hr.hd e0 hln r x
  have hrun := ht.nox.run [] s1 (start N vs) H _ I hq
  refine wpAny_mono hrun ?_ fun e s' hs => hs
  intro fl s' hs
  cases fl with
  | brk =>
    obtain ⟨_, _, _, q⟩ := hs
    cases q
  | cont =>
    obtain ⟨_, _, _, q⟩ := hs
    cases q
  | next =>
    obtain ⟨σ', H', J, q⟩ := hs
    exact ⟨V.non, H', J.os, J.bare, J.base, J.hok, rfl, q⟩
  | ret u =>
    obtain ⟨v, σ', H', J, rv, q⟩ := hs
    exact ⟨v, H', J.os, J.bare, J.base, J.hok, rv, q⟩
end
/-! ### a call of such a def -/
/-- a module's def by its name: it keeps the promise sp, at most k deep -/
structure Cal (P : Program) (w : World) (K : PySem.W.Frag) (mg : Str → Option Value)
    (base : Heap) (k : Nat) (x : Str) (ps : List Str) (sp : Sp) : Prop where
  ex : ∃ f fd, FnG P w K mg base k f fd ps sp ∧ mg x = some (.ref f) ∧
    PySem.W.keepIn K (.ref f) = true ∧ Binds K fd ps []
section
variable {X : Cx} {k : Nat} {ps : List Str} {sp : Sp} {x : Str} {p pos : Pos}
  {e : Expr} {es : List Expr} {t : TA}
theorem run_cal {f : Addr} {fd : FuncData} {pins : List (Addr × Obj)} {σ : L2.St} {H : Hp} {s : Shared}
    {Q : VK} {us : List Value} {vs : List V}
    (F : FnG X.prog X.w X.K X.mg X.base k f fd ps sp) (hgu : X.A.guards = some [])
    (hr : Room k X.A) (hb : Binds X.K fd ps []) (I : Inv X pins σ H s) (r : Vals vs us)
    (h : sp vs H Q E0) :
    wpAny (model X.prog X.w) X.A (call (.ref f) us) (EP X pins σ Q) X.xe s := by
  have hl : us.length = ps.length := r.length.symm.trans (F.len _ _ _ _ h)
  have hbs := hb s us I.kIn (by simpa using hl)
  rw [List.append_nil] at hbs
  refine wpAny_call (codeAny_mono
    (F.run X.A X.stack s H ⟨us, []⟩ us vs Q hgu hr I.env0 hbs r h) ?_)
  intro res s' hq
  cases res with
  | error e => exact False.elim hq
  | ok fl =>
    cases fl with
    | next => cases hq
    | brk => cases hq
    | cont => cases hq
    | ret u => exact I.after hq
theorem pe_cal (c : Cal X.prog X.w X.K X.mg X.base k x ps sp) (hgu : X.A.guards = some [])
    (hr : Room k X.A) (ha : PA X (e :: es) t) (hg : Gl X x := by rfl)
    (hdb : (x == ("__debug__" : Str)) = false := by decide)
    (he : starEach (e :: es) X.env = (false, eval e X.env) :: starEach es X.env := by rfl)
    (hpl : (backTo pos (starEach es X.env)).any (·.1) = false := by rfl) :
    PE X (.Call (.Name x p) (e :: es) [] pos) (tCall sp [] E0 t) := by
  obtain ⟨f, fd, F, hm, hk, hb⟩ := c.ex
  constructor
  intro pins s σ H Q I h
  refine wpAny_Call_Name_kw (ld_glob I hg hm ?_ hdb)
  refine PySem.W.callWith_K (h₀ := X.base) I.ok.mod.kin hk (thn (ha.run pos pins s σ H _ I h) ?_) he hpl
  intro us s1 hh
  obtain ⟨vs, H1, I1, r, q⟩ := hh
  rw [List.append_nil] at q
  exact ⟨I1.kIn, run_cal F hgu hr hb I1 r q⟩
theorem pe_cal0 (c : Cal X.prog X.w X.K X.mg X.base k x ps sp) (hgu : X.A.guards = some [])
    (hr : Room k X.A) (hg : Gl X x := by rfl)
    (hdb : (x == ("__debug__" : Str)) = false := by decide) :
    PE X (.Call (.Name x p) [] [] pos) (tCall sp [] E0 tNil) := by
  obtain ⟨f, fd, F, hm, hk, hb⟩ := c.ex
  constructor
  intro pins s σ H Q I h
  refine wpAny_Call_Name_kw (ld_glob I hg hm ?_ hdb)
  have hc := run_cal (us := []) F hgu hr hb I .nil h
  exact PySem.W.callWith_K0 I.kIn hk hc
/-- a module's constant -/
theorem pe_globI {i : Int} (hg : Gl X x) (h : ∃ t, X.mg x = some (.int i t))
    (hdb : (x == ("__debug__" : Str)) = false := by decide) :
    PE X (.Name x pos) (tC (.int i)) := by
  obtain ⟨t, h⟩ := h
  exact pe_glob hg h ⟨t, rfl⟩ hdb
theorem pe_globS {i : Str} (hg : Gl X x) (h : ∃ t, X.mg x = some (.str i t))
    (hdb : (x == ("__debug__" : Str)) = false := by decide) :
    PE X (.Name x pos) (tC (.str i)) := by
  obtain ⟨t, h⟩ := h
  exact pe_glob hg h ⟨t, rfl⟩ hdb
end

/-! ### repr of data: none, bools, ints, texts, lists, tuples at any depth -/
mutual
theorem dp_nod {K : PySem.W.Frag} {H : Hp} : ∀ (d : PyData) (v : V), Dp K H v d → d.hasDict = false
  | .none, _, _ => by simp only [PyData.hasDict]
  | .bool _, _, _ => by simp only [PyData.hasDict]
  | .int _, _, _ => by simp only [PyData.hasDict]
  | .str _, _, _ => by simp only [PyData.hasDict]
  | .list ds, _, h => by
    cases h with
    | lst _ ha =>
      simp only [PyData.hasDict]
      exact dps_nod ds _ ha
  | .tuple ds, _, h => by
    cases h with
    | tup _ ha =>
      simp only [PyData.hasDict]
      exact dps_nod ds _ ha
  | .dict _, _, h => by cases h
theorem dps_nod {K : PySem.W.Frag} {H : Hp} : ∀ (ds : List PyData) (vs : List V), DpAll K H vs ds →
    PyData.hasDictAll ds = false
  | [], _, _ => by simp only [PyData.hasDictAll]
  | d :: ds, _, h => by
    cases h with
    | cons h1 h2 =>
      simp only [PyData.hasDictAll]
      rw [dp_nod d _ h1, dps_nod ds _ h2]
      rfl
end
section
variable {X : Cx}
/-- what repr asks: the data (ints below 2 ^ 1900), its length -/
def rRepr (K : PySem.W.Frag) : List V → Hp → VK → Prop := fun xs H Q =>
  ∃ v d, xs = [v] ∧ Dp K H v d ∧ d.showable = true ∧ d.depth ≤ 60 ∧
    d.shown.length ≤ sizeLine ∧ Q (.str d.shown) H
theorem call_repr (hgu : X.A.guards = some []) (hu : X.A.units + 64 < cLine) :
    CallR X (.builtin "repr") (rRepr X.K) := by
  intro pins s σ H xs us Q I r h
  obtain ⟨v, d, rfl, hd, hs, hdep, hz, q⟩ := h
  obtain ⟨u, rfl, ru⟩ := vals1 r
  obtain ⟨as, R⟩ := Dp.reads I d v u hd ru
  have hno : d.hasDict = true → sysModules ∉ as := fun z => by
    rw [dp_nod d v hd] at z
    cases z
  cases R with
  | none => exact PySem.P.repr_of_none ⟨.str _, H, I.tok _, ⟨_, rfl⟩, q⟩
  | bool b => exact PySem.P.repr_of_bool ⟨.str _, H, I.tok _, ⟨_, rfl⟩, q⟩
  | int i t => exact PySem.P.repr_of_int (of_decide_eq_true hs) ⟨.str _, H, I.tok _, ⟨_, rfl⟩, q⟩
  | str x t => exact PySem.P.repr_of_str ⟨.str _, H, I.tok _, ⟨_, rfl⟩, q⟩ hz
  | list h1 h2 h3 h4 =>
    exact repr_of_reads' (.list h1 h2 h3 h4) hs hno hgu (by omega) (fun _ _ e => e)
      (fun h' uu tk kk => ⟨.str _, H, I.kept kk, ⟨_, rfl⟩, q⟩) hz
  | tuple h1 h2 h3 h4 =>
    exact repr_of_reads' (.tuple h1 h2 h3 h4) hs hno hgu (by omega) (fun _ _ e => e)
      (fun h' uu tk kk => ⟨.str _, H, I.kept kk, ⟨_, rfl⟩, q⟩) hz
  | dict h1 h2 h3 h4 h5 => cases hd
end

/-! ### the law's call, from the promise of the law's def -/
/-- the law's def, at the heap in which nothing but the script may be tracked -/
theorem law_runG {P : Program} {w : World} {K : PySem.W.Frag} {mg mb : Str → Option Value} {k : Nat}
    {fa a : Addr} {fd : FuncData} {x : Str} {sp : Sp} {s₁ : Shared} {vs : List Value} {H : Hp}
    (KX : K.In s₁.heap) (hns : s₁.heap.Ns mainGlobals mg) (hb : s₁.heap.Ns builtinsNs mb)
    (hbb : ∀ x : Str, x ≠ "__name__" → mb x = bootBuiltins x)
    (hlim : s₁.heap.NoLimit) (hg : s₁.gens = #[])
    (ha : s₁.heap.get? a = some { cls := .type "list", data := .seq vs.toArray })
    (hr : Room k callerA)
    (F : ∀ base : Heap, K.In base → base.Ns mainGlobals mg → FnG P w K mg base k fa fd [x] sp)
    (hbind : ∀ (s : Shared) (u : Value), BindsTo s fd ⟨[u], []⟩ [(x, u)])
    (hsp : sp [.ref a] H (fun v _ => v = .bl true) E0)
    (hO : Only H) (hok : HOk P w H s₁.heap) (hA : ∀ b, H b ≠ none → b = a)
    (hK : H a ≠ none → K.lookup a = none) :
    codeAny (model P w) callerA (.call (.ref fa) ⟨[.ref a], []⟩)
      (fun r s' => r = .ok (.ret (.bool true)) ∧ OldK s₁.heap s'.heap ∧ s'.os = s₁.os ∧
        AllBare s'.gens) s₁ := by
  have tracked : ∀ {b : Addr}, b ≠ a → H b = none := by
    intro b ne
    cases q : H b with
    | none => rfl
    | some u => exact absurd (hA b (by rw [q]; simp)) ne
  have low : ∀ {b : Addr} {o : Obj}, s₁.heap.get? b = some o → H b = none →
      (hidT s₁.heap H).get? b = some o := by
    intro b o e n
    exact hidT_get e n
  have dictFree : ∀ {b : Addr} {o : Obj} {es : Array DictEntry} {ep : Nat},
      s₁.heap.get? b = some o → o.data = .dict es ep → H b = none := by
    intro b o es ep e d
    refine tracked ?_
    intro z
    rw [z, ha] at e
    cases e
    cases d
  have nsLow : ∀ {b : Addr} {m : Str → Option Value}, s₁.heap.Ns b m → (hidT s₁.heap H).Ns b m := by
    intro b m z
    obtain ⟨o, es, ep, e, d, r⟩ := z
    exact ⟨o, es, ep, low e (dictFree e d), d, r⟩
  have kLow : K.In (hidT s₁.heap H) := by
    intro b o e
    refine low (KX b o e) ?_
    cases q : H b with
    | none => rfl
    | some u =>
      have eb : b = a := hA b (by rw [q]; simp)
      have hn : K.lookup a = none := hK (by rw [← eb, q]; simp)
      rw [eb, hn] at e
      cases e
  have limLow : (hidT s₁.heap H).NoLimit := by
    obtain ⟨mc, h1, h2⟩ := hlim
    exact ⟨mc, nsLow h1, h2⟩
  have hM : Mod K mg (hidT s₁.heap H) := ⟨kLow, nsLow hns, ⟨mb, nsLow hb, hbb⟩, limLow⟩
  have e0 : Env0 P w K mg (hidT s₁.heap H) callerA [] s₁ H :=
    { frames := rfl, mod := hM, bs := fun b o e => of_hidT e,
      bsz := Nat.le_of_eq (hidT_size _ _), funs := trivial,
      frf := (fun b z => by cases z), hok := hok, bare := .of_eq hg }
  have run := (F _ kLow (nsLow hns)).run callerA [] s₁ H ⟨[.ref a], []⟩ [.ref a] [.ref a] _
    rfl hr e0 (hbind s₁ (.ref a)) (.cons rfl .nil) hsp
  refine codeAny_mono run ?_
  intro r s' h
  cases r with
  | error e => cases h
  | ok fl =>
    cases fl with
    | next => cases h
    | brk => cases h
    | cont => cases h
    | ret u =>
      obtain ⟨v, H', hos, bare, un, hok', r', q⟩ := h
      have ev : v = .bl true := q
      rw [ev] at r'
      have eu : u = Value.bool true := r'
      refine ⟨by rw [eu], OldK.of_keep ?_, hos, bare⟩
      intro b o e
      cases q2 : H b with
      | none => exact un.keep b o e q2 (by intro z; cases z) (by intro z; cases z)
      | some u2 =>
        cases hO b with
        | inl z => rw [q2] at z; cases z
        | inr z =>
          obtain ⟨ob, xs, z⟩ := z
          obtain ⟨e1, _⟩ := hok b _ z
          obtain ⟨e2, _⟩ := hok' b _ (un.frzs b ob _ z)
          rw [e] at e1
          cases e1
          exact e2
theorem law_callG {P : Program} {w : World} {K : PySem.W.Frag} {mg mb : Str → Option Value} {k : Nat}
    {fa a : Addr} {fd : FuncData} {x : Str} {sp : Sp} {s₁ : Shared} {vs : List Value} {ns : List Int}
    (KX : K.In s₁.heap) (hns : s₁.heap.Ns mainGlobals mg) (hb : s₁.heap.Ns builtinsNs mb)
    (hbb : ∀ x : Str, x ≠ "__name__" → mb x = bootBuiltins x)
    (hlim : s₁.heap.NoLimit) (hg : s₁.gens = #[])
    (ha : s₁.heap.get? a = some { cls := .type "list", data := .seq vs.toArray })
    (hi : IntsAre vs ns) (hl : ns.length ≤ sizeLine) (hr : Room k callerA)
    (F : ∀ base : Heap, K.In base → base.Ns mainGlobals mg → FnG P w K mg base k fa fd [x] sp)
    (hbind : ∀ (s : Shared) (u : Value), BindsTo s fd ⟨[u], []⟩ [(x, u)])
    (hsp : ∀ H : Hp, Only H → SqL K H a (ns.map V.int) → sp [.ref a] H (fun v _ => v = .bl true) E0) :
    codeAny (model P w) callerA (.call (.ref fa) ⟨[.ref a], []⟩)
      (fun r s' => r = .ok (.ret (.bool true)) ∧ OldK s₁.heap s'.heap ∧ s'.os = s₁.os ∧
        AllBare s'.gens) s₁ := by
  have rv := vals_ints hi
  have lenV := hi.length
  cases hk : K.lookup a with
  | some o =>
    have e := KX a o hk
    rw [ha] at e
    have eo := Option.some.inj e
    have hS : SqL K (fun _ => none) a (ns.map V.int) :=
      .inr ⟨_, vs.toArray, _, hk, by rw [← eo], by rw [← eo], by rw [← eo],
        by rw [List.size_toArray, lenV]; exact hl, by simpa using rv⟩
    exact law_runG KX hns hb hbb hlim hg ha hr F hbind (hsp _ (fun _ => .inl rfl) hS) (fun _ => .inl rfl)
      (fun b u z => by cases z) (fun b z => absurd rfl z) (fun z => absurd rfl z)
  | none =>
    let ob : Obj := { cls := .type "list", data := .seq vs.toArray }
    let H : Hp := fun b => if b = a then some (.frz ob (.lst (ns.map V.int))) else none
    have hH : H a = some (.frz ob (.lst (ns.map V.int))) := if_pos rfl
    have hO : Only H := by
      intro b
      by_cases eb : b = a
      · exact .inr ⟨_, _, if_pos eb⟩
      · exact .inl (if_neg eb)
    have hok : HOk P w H s₁.heap := by
      intro b u z
      by_cases eb : b = a
      · rw [eb, hH] at z
        cases z
        rw [eb]
        exact ⟨ha, by rw [List.length_map]; exact hl, vs, _, rv, ha⟩
      · have z' : H b = none := if_neg eb
        rw [z'] at z
        cases z
    have hA : ∀ b, H b ≠ none → b = a := by
      intro b z
      by_cases eb : b = a
      · exact eb
      · exact absurd (if_neg eb) z
    exact law_runG KX hns hb hbb hlim hg ha hr F hbind (hsp H hO (.inl (.inr ⟨ob, hH⟩))) hO hok hA
      (fun _ => hk)
/-- the end of a law's row over a head by facts; the script's bits are told -/
theorem walkG {l : PySem.W.OpenLaw} {n k : Nat} {q : Program} {loose : List Str}
    {XP : (Str → Option Value) → Heap → Prop} {YP : World → Heap → Prop} {d : DefRec} {x : Str}
    (hn : l.most = some n) (hn2 : n ≤ sizeLine) (hdf : d.params.defaults = []) (hr : Room k callerA)
    (F : ∀ (w : World) (mg : Str → Option Value) (fa : Addr) (h : Heap), YP w h →
      h.Ns mainGlobals mg → mg d.name = some (.ref fa) →
      ∃ (K : PySem.W.Frag) (fd : FuncData) (sp : Sp), K.In h ∧
        (∀ (s : Shared) (u : Value), BindsTo s fd ⟨[u], []⟩ [(x, u)]) ∧
        (∀ (H : Hp) (a : Addr) (ns : List Int), ns.length ≤ n →
          (∀ z ∈ ns, Builtin.Int.intBits z ≤ 1048576) → Only H → SqL K H a (ns.map V.int) →
          sp [.ref a] H (fun v _ => v = .bl true) E0) ∧
        ∀ base : Heap, K.In base → base.Ns mainGlobals mg →
          FnG l.prog w K mg base k fa fd [x] sp) :
    PySem.W.WalkO q loose XP YP l.row.toRowW d [] (fun f vs => PySem.call f vs) := by
  refine Att.attach_callB hn hdf ?_
  intro w s₀ s₁ mg mb fa o pm cd doc a vs ns G Y ho hd hcd hmg hobj hints hlen hbits hg
  obtain ⟨K, fd, sp, KX, hb, hsp, hF⟩ := F w mg fa _ Y G.T.g hmg
  exact law_callG KX G.T.g G.T.b G.T.builtins G.T.nolimit hg hobj hints (Nat.le_trans hlen hn2) hr hF hb
    (fun H hO hS => hsp H a ns hlen hbits hO hS)
end Vg

set_option Elab.async false
set_option linter.all false
set_option maxRecDepth 100000
set_option maxHeartbeats 2000000
namespace Vg
open PySem PySem.Spec PyProof.Rows L2
/-! ### the head's facts: predicates of the written part, and the defs -/
def seenX (fs : List (PySem.W.Frag → Bool)) (fn : List He.DefD) (K : PySem.W.Frag) : He.AlD :=
  ((fs.all fun f => f K) && (fn.all fun d => d.ok K), fn.map fun d => He.fnW K d.at_)
def SaysX (fs : List (PySem.W.Frag → Bool)) (fn : List He.DefD) (K : PySem.W.Frag) : Prop :=
  seenX fs fn K = He.valD fn
def seenG (n : Nat) (fs : List (PySem.W.Frag → Bool)) (fn : List He.DefD) (g : Addr → Option Obj) : He.AlD :=
  seenX fs fn (He.frG g (He.asD g n))
def hookX (n : Nat) (fs : List (PySem.W.Frag → Bool)) (fn : List He.DefD) : PySem.W.Hook where
  α := He.AlD
  obs := fun s => seenG n fs fn s.heap.get?
  val := fun _ => He.valD fn
  says := fun _ h => ∃ K : PySem.W.Frag, K.In h ∧ SaysX fs fn K
  of := fun _ _ e => ⟨_, He.frG_in, e⟩
  keeps := fun _ _ _ z k => by
    obtain ⟨K, hK, c⟩ := z
    exact ⟨K, PySem.W.Frag.In.keeps hK k, c⟩
theorem seenG_eq {n : Nat} {fs : List (PySem.W.Frag → Bool)} {fn : List He.DefD} {g : Addr → Option Obj}
    {s : Shared} (h : ∀ a, g a = s.heap.get? a) : seenG n fs fn g = (hookX n fs fn).obs s := by
  have e : g = s.heap.get? := funext h
  subst e
  rfl
section
variable {fs : List (PySem.W.Frag → Bool)} {fn : List He.DefD} {K : PySem.W.Frag}
theorem SaysX.both (c : SaysX fs fn K) : (fs.all fun f => f K) = true ∧ (fn.all fun d => d.ok K) = true := by
  have e : ((fs.all fun f => f K) && (fn.all fun d => d.ok K)) = true :=
    congrArg (fun z : He.AlD => z.1) (show seenX fs fn K = He.valD fn from c)
  exact Bool.and_eq_true_iff.mp e
theorem SaysX.fact (c : SaysX fs fn K) (i : Nat) {f : PySem.W.Frag → Bool} (h : fs[i]? = some f := by rfl) :
    f K = true := List.all_eq_true.mp c.both.1 f (List.mem_of_getElem? h)
theorem SaysX.def_ (c : SaysX fs fn K) (i : Nat) {d : He.DefD} (h : fn[i]? = some d := by rfl) :
    ∃ fd, FunD K d.name d.qual d.params d.body d.scope (d.dvs K) (d.kws K) (He.fAd K d.at_) fd := by
  have e : fn.map (fun d => He.fnW K d.at_) = fn.map He.DefD.val :=
    congrArg (fun z : He.AlD => z.2) (show seenX fs fn K = He.valD fn from c)
  have e2 := congrArg (fun z => z[i]?) e
  simp only [List.getElem?_map, h, Option.map_some, Option.some.injEq] at e2
  exact He.DefD.funD e2 (List.all_eq_true.mp c.both.2 d (List.mem_of_getElem? h))
end
/-- a def of the text, without defaults, as the module's name x -/
def dOf (x : Str) (st : Stmt) : He.DefD := ⟨(x, none), x, x, defArgs st, defBody st, defScope st, [], []⟩
def DefAt (K : PySem.W.Frag) (mg : Str → Option Value) (x : Str) (st : Stmt) : Prop :=
  ∃ fd, FunD K x x (defArgs st) (defBody st) (defScope st) [] [] (He.ga K x) fd ∧
    mg x = some (.ref (He.ga K x))
theorem defAt {fs : List (PySem.W.Frag → Bool)} {fn : List He.DefD} {K : PySem.W.Frag} {h : Heap}
    {mg : Str → Option Value} (X : K.In h) (G : h.Ns mainGlobals mg) (c : SaysX fs fn K) {x : Str} {st : Stmt}
    (i : Nat) (j : Nat) (hd : fn[i]? = some (dOf x st) := by rfl)
    (hg : fs[j]? = some (fun K => (He.Fa.glo x).ok K) := by rfl) : DefAt K mg x st := by
  obtain ⟨fd, F⟩ := c.def_ i hd
  exact ⟨fd, F, He.glo_ok X G (c.fact j hg)⟩
section
variable {P : Program} {w : World} {K : PySem.W.Frag} {mg : Str → Option Value} {base : Heap}
theorem cal_mk {x : Str} {st : Stmt} {N ps : List Str} {k : Nat} {sp : Sp} (D : DefAt K mg x st)
    (S : FnScope N ps (defScope st))
    (hb : ∀ (dV kV doc pm : Value) (an : Option Addr) (cdv ct : Value) (us : List Value), us.length = ps.length →
      bindArgs (PySem.W.fnOf x x (defArgs st) (defBody st) (defScope st) .none kV doc pm an cdv ct) ⟨us, []⟩
        = pure (ps.zip us))
    (len : ∀ vs H Q E, sp vs H Q E → vs.length = ps.length)
    (hbody : ∀ (f : Addr) (cdv : Value) (A : Around) (outer : List Env) (s : Shared) (H : Hp)
      (vs : List V) (Q : VK),
      (Cb P w K mg base N x (defScope st) f cdv A outer s H).A.guards = some [] →
      Room k (Cb P w K mg base N x (defScope st) f cdv A outer s H).A → sp vs H Q E0 →
      ∃ t, PSs (Cb P w K mg base N x (defScope st) f cdv A outer s H).nox (defBody st) t ∧
        t { nx := fun _ H' => Q .non H', rt := Q } (start N vs) H) :
    Cal P w K mg base (k + 1) x ps sp := by
  obtain ⟨fd, F, hm⟩ := D
  refine ⟨_, fd, FnG.mk_of F S len (hbody _), hm, F.kp, ?_⟩
  exact F.bindsN fun kV doc pm an cdv ct us hl => hb .none kV doc pm an cdv ct us hl
theorem Cal.mono {x : Str} {ps : List Str} {j k : Nat} {sp : Sp} (c : Cal P w K mg base j x ps sp)
    (h : j ≤ k) : Cal P w K mg base k x ps sp := by
  obtain ⟨f, fd, F, r⟩ := c.ex
  exact ⟨f, fd, F.mono h, r⟩
end
end Vg

set_option Elab.async false
set_option linter.all false
set_option maxRecDepth 100000
set_option maxHeartbeats 2000000
namespace Vg
open PySem PySem.Spec PyProof.Rows L2
/-! ### heaps -/
/-- all that was tracked, but what stands at p, is as it was -/
def But (p : Addr) (H H' : Hp) : Prop := ∀ b o, b ≠ p → H b = some o → H' b = some o
theorem But.refl (p : Addr) (H : Hp) : But p H H := fun _ _ _ h => h
theorem But.trans {p : Addr} {H H1 H2 : Hp} (a : But p H H1) (b : But p H1 H2) : But p H H2 :=
  fun c o n h => b c o n (a c o n h)
theorem But.of {p : Addr} {H H' : Hp} (a : Same H H') : But p H H' := fun b o _ h => a b o h
theorem But.at_ {p : Addr} {H : Hp} {o : HO} : But p H (upd H p o) := fun b u n h => by
  rw [upd_ne n]; exact h
theorem sm_new {H : Hp} {p : Addr} {o : HO} (h : H p = none) : Same H (upd H p o) := fun b u e => by
  rw [upd_ne (ne_of_none e h)]; exact e
theorem But.new {q p : Addr} {H : Hp} {o : HO} (h : H p = none) : But q H (upd H p o) := But.of (sm_new h)
theorem sm_nw {H0 H : Hp} {p : Addr} {o : HO} (a : Same H0 H) (h : H p = none) : Same H0 (upd H p o) := a.trans (sm_new h)
theorem But.nw {q : Addr} {H0 H : Hp} {p : Addr} {o : HO} (a : But q H0 H) (h : H p = none) : But q H0 (upd H p o) := a.trans (But.new h)
/-- a place that was free may be written -/
theorem sm_own {H0 H : Hp} {p : Addr} {o : HO} (a : Same H0 H) (h : H0 p = none) : Same H0 (upd H p o) := fun b u e => by
  rw [upd_ne (ne_of_none e h)]; exact a b u e
theorem But.own {q : Addr} {H0 H : Hp} {p : Addr} {o : HO} (a : But q H0 H) (h : H0 p = none) : But q H0 (upd H p o) := fun b u n e => by
  rw [upd_ne (ne_of_none e h)]; exact a b u n e
theorem But.wr {q : Addr} {H0 H : Hp} {o : HO} (a : But q H0 H) : But q H0 (upd H q o) := fun b u n e => by
  rw [upd_ne n]; exact a b u n e
theorem But.seq {K : PySem.W.Frag} {p a : Addr} {H H' : Hp} {xs : List V} (e : But p H H') (n : a ≠ p)
    (h : SqL K H a xs) : SqL K H' a xs := by
  rcases h with (h | ⟨o, h⟩) | h
  · exact .inl (.inl (e _ _ n h))
  · exact .inl (.inr ⟨o, e _ _ n h⟩)
  · exact .inr h
theorem But.tup {K : PySem.W.Frag} {p a : Addr} {H H' : Hp} {xs : List V} (e : But p H H') (n : a ≠ p)
    (h : SqT K H a xs) : SqT K H' a xs := by
  rcases h with (h | ⟨o, h⟩) | h
  · exact .inl (.inl (e _ _ n h))
  · exact .inl (.inr ⟨o, e _ _ n h⟩)
  · exact .inr h
theorem sm_tup {K : PySem.W.Frag} {a : Addr} {H H' : Hp} {xs : List V} (e : Same H H')
    (h : SqT K H a xs) : SqT K H' a xs := by
  rcases h with (h | ⟨o, h⟩) | h
  · exact .inl (.inl (e _ _ h))
  · exact .inl (.inr ⟨o, e _ _ h⟩)
  · exact .inr h
theorem But.free {p l : Addr} {H H' : Hp} (e : But p H H') (n : l ≠ p) (h : H' l = none) : H l = none := by
  cases q : H l with
  | none => rfl
  | some o => rw [e l o n q] at h; cases h
/-- a list's address is no dict's -/
theorem ne_dl {H : Hp} {a p : Addr} {xs : List V} {kvs : List (Key × V)} (h : H a = some (.lst xs))
    (hp : H p = some (.dK kvs)) : a ≠ p := ne_of h hp (by intro z; cases z)
theorem ne_dt {H : Hp} {a p : Addr} {xs : List V} {kvs : List (Key × V)} (h : H a = some (.tup xs))
    (hp : H p = some (.dK kvs)) : a ≠ p := ne_of h hp (by intro z; cases z)
/-! ### the pen -/
def penD (L : Addr) (t r : Int) : List (Key × V) :=
  [(.inr "cells", .ref L), (.inr "turn", .int t), (.inr "rest", .int r)]
theorem pen_cells (L : Addr) (t r : Int) : valV (penD L t r) (.inr "cells") = some (.ref L) := by
  simp [penD, valV, List.find?]
theorem pen_turn (L : Addr) (t r : Int) : valV (penD L t r) (.inr "turn") = some (.int t) := by
  have h : ¬ (("cells" : Str) = "turn") := by decide +kernel
  simp [penD, valV, List.find?, h]
theorem pen_rest (L : Addr) (t r : Int) : valV (penD L t r) (.inr "rest") = some (.int r) := by
  have h : ¬ (("cells" : Str) = "rest") := by decide +kernel
  have h2 : ¬ (("turn" : Str) = "rest") := by decide +kernel
  simp [penD, valV, List.find?, h, h2]
theorem pen_putT (L : Addr) (t r u : Int) : putK (penD L t r) (.inr "turn") (.int u) = penD L u r := by
  have h : ¬ (("cells" : Str) = "turn") := by decide +kernel
  have h2 : ¬ (("rest" : Str) = "turn") := by decide +kernel
  simp [penD, putK, h, h2]
theorem pen_putR (L : Addr) (t r u : Int) : putK (penD L t r) (.inr "rest") (.int u) = penD L t u := by
  have h : ¬ (("cells" : Str) = "rest") := by decide +kernel
  have h2 : ¬ (("turn" : Str) = "rest") := by decide +kernel
  simp [penD, putK, h, h2]
theorem pen_merge (L : Addr) (t r : Int) : mergeK [] (penD L t r) = penD L t r := by
  have h : ¬ (("cells" : Str) = "turn") := by decide +kernel
  have h2 : ¬ (("cells" : Str) = "rest") := by decide +kernel
  have h3 : ¬ (("turn" : Str) = "rest") := by decide +kernel
  simp [penD, mergeK, putK, h, h2, h3]
theorem cut_take (ns : List Int) : cutV (ns.map V.int) none (some 63) = (ns.take 63).map V.int := by
  unfold cutV HT.sIx
  simp [List.map_take]
/-- a pen at p, its cells at L, that has taken at most n cells -/
def PenAt (H : Hp) (p L : Addr) (n : Nat) : Prop := ∃ (cs : List Int) (t r : Int),
  H p = some (.dK (penD L t r)) ∧ H L = some (.lst (cs.map V.int)) ∧ cs.length ≤ 63 ∧ 0 ≤ t ∧ t ≤ n ∧ 0 ≤ r
section
variable {H H' : Hp} {p L a : Addr} {n m : Nat} {xs ys : List V}
theorem PenAt.mono (h : PenAt H p L n) (l : n ≤ m) : PenAt H p L m := by
  obtain ⟨cs, t, r, h1, h2, h3, h4, h5, h6⟩ := h
  exact ⟨cs, t, r, h1, h2, h3, h4, by omega, h6⟩
theorem PenAt.same (h : PenAt H p L n) (e : Same H H') : PenAt H' p L n := by
  obtain ⟨cs, t, r, h1, h2, h3⟩ := h
  exact ⟨cs, t, r, e _ _ h1, e _ _ h2, h3⟩
theorem PenAt.new {o : HO} (h : PenAt H p L n) (e : H a = none) : PenAt (upd H a o) p L n := h.same (sm_new e)
theorem PenAt.some_ (h : PenAt H p L n) : ∃ kvs, H p = some (.dK kvs) := by
  obtain ⟨cs, t, r, h1, _⟩ := h
  exact ⟨_, h1⟩
theorem PenAt.someL (h : PenAt H p L n) : ∃ cs, H L = some (.lst cs) := by
  obtain ⟨cs, t, r, _, h1, _⟩ := h
  exact ⟨_, h1⟩
theorem PenAt.ne_l (h : PenAt H p L n) (ha : H a = some (.lst xs)) : a ≠ p := by
  obtain ⟨_, hp⟩ := h.some_
  exact ne_dl ha hp
theorem PenAt.ne_t (h : PenAt H p L n) (ha : H a = some (.tup xs)) : a ≠ p := by
  obtain ⟨_, hp⟩ := h.some_
  exact ne_dt ha hp
theorem PenAt.ne_n (h : PenAt H p L n) (ha : H a = none) : a ≠ p := by
  obtain ⟨_, hp⟩ := h.some_
  exact (ne_of_none hp ha).symm
theorem PenAt.ne_nL (h : PenAt H p L n) (ha : H a = none) : a ≠ L := by
  obtain ⟨_, hp⟩ := h.someL
  exact (ne_of_none hp ha).symm
/-- what is written apart from the pen and its cells -/
theorem PenAt.wr {o : HO} (h : PenAt H p L n) (ha : a ≠ p) (hL : a ≠ L) : PenAt (upd H a o) p L n := by
  obtain ⟨cs, t, r, h1, h2, h3⟩ := h
  exact ⟨cs, t, r, (upd_ne ha.symm).trans h1, (upd_ne hL.symm).trans h2, h3⟩
end
/-! ### the promises of the pen's defs -/
def sp_pen (K : PySem.W.Frag) : Sp := fun vs H Q _ => ∃ (a : Addr) (ns : List Int), vs = [.ref a] ∧
  SqL K H a (ns.map V.int) ∧ ns.length ≤ 63 ∧ ∀ H' p L, Same H H' → H p = none → H L = none → PenAt H' p L 0 → Q (.ref p) H'
def sp_draw : Sp := fun vs H Q _ => ∃ (p L : Addr) (n : Nat) (many : Int), vs = [.ref p, .int many] ∧ PenAt H p L n ∧
  n ≤ 100000000 ∧ 0 < many ∧ many.natAbs.log2 < 9000 ∧
  ∀ H' d, But p H H' → PenAt H' p L (n + 1) → 0 ≤ d → d < many → Q (.int d) H'
/-- an item of the list, tuple -/
def sp_pick (K : PySem.W.Frag) : Sp := fun vs H Q _ => ∃ (p L a : Addr) (n : Nat) (xs : List V), vs = [.ref p, .ref a] ∧ PenAt H p L n ∧
  n ≤ 100000000 ∧ (SqL K H a xs ∨ SqT K H a xs) ∧ a ≠ p ∧ 0 < xs.length ∧ xs.length ≤ 1000000 ∧
  ∀ H' v, But p H H' → PenAt H' p L (n + 1) → v ∈ xs → Q v H'
/-- the ints in another order, each at most once -/
def sp_shuffled (K : PySem.W.Frag) : Sp := fun vs H Q _ => ∃ (p L a : Addr) (n : Nat) (ns : List Int), vs = [.ref p, .ref a] ∧ PenAt H p L n ∧
  n + ns.length ≤ 100000000 ∧ SqL K H a (ns.map V.int) ∧ ns.length ≤ 1000 ∧
  ∀ H' l (ms : List Int), But p H H' → PenAt H' p L (n + ns.length) → H l = none → H' l = some (.lst (ms.map V.int)) → ms.Perm ns → Q (.ref l) H'
theorem len_log {n : Nat} (r : n ≤ 1000000) (h : 0 < n) : ((n : Nat) : Int).natAbs.log2 < 9000 := by
  have h1 : ((n : Nat) : Int).natAbs < 2 ^ 64 := by
    have e : (2 : Nat) ^ 64 = 18446744073709551616 := by decide
    omega
  exact Nat.lt_of_lt_of_le (PySem.Flt.log2_lt_of (by decide) h1) (by decide)
theorem log_lt {m : Int} (h : m < 18446744073709551616) (h0 : 0 < m) : m.natAbs.log2 < 9000 := by
  have h1 : m.natAbs < 2 ^ 64 := by
    have e : (2 : Nat) ^ 64 = 18446744073709551616 := by decide
    omega
  exact Nat.lt_of_lt_of_le (PySem.Flt.log2_lt_of (by decide) h1) (by decide)
/-- a remainder by five picks one of five -/
theorem pick5 {a b c d e : Int} {t : Int} (P : Int → Prop) (ha : P a) (hb : P b) (hc : P c) (hd : P d) (he : P e) (ht : 0 ≤ t) :
    ∃ v, atI [V.int a, .int b, .int c, .int d, .int e] (t.fmod 5) = some (.int v) ∧ P v := by
  rw [Int.fmod_eq_emod_of_nonneg _ (by decide)]
  have h0 := Int.emod_nonneg t (by decide : (5 : Int) ≠ 0)
  have h1 := Int.emod_lt_of_pos t (by decide : (0 : Int) < 5)
  generalize t % 5 = k at *
  have hk : k = 0 ∨ k = 1 ∨ k = 2 ∨ k = 3 ∨ k = 4 := by omega
  rcases hk with rfl | rfl | rfl | rfl | rfl
  · exact ⟨a, rfl, ha⟩
  · exact ⟨b, rfl, hb⟩
  · exact ⟨c, rfl, hc⟩
  · exact ⟨d, rfl, hd⟩
  · exact ⟨e, rfl, he⟩
theorem fmod_b {a b : Int} (h : 0 < b) : 0 ≤ a.fmod b ∧ a.fmod b < b :=
  ⟨Int.fmod_nonneg_of_pos a h, Int.fmod_lt_of_pos a h⟩
theorem fdiv_nn {a b : Int} (h : 0 ≤ a) (hb : 0 < b) : 0 ≤ a.fdiv b := Int.fdiv_nonneg h (by omega)
theorem at_mod {xs : List Int} {t : Int} (h : 0 < xs.length) : ∃ v, atI (xs.map V.int) (t.fmod ((xs.map V.int).length : Int)) = some (.int v) := by
  have hb := fmod_b (a := t) (b := (xs.length : Int)) (by omega)
  rw [List.length_map]
  obtain ⟨j, hj⟩ : ∃ j : Nat, t.fmod (xs.length : Int) = (j : Int) := ⟨(t.fmod (xs.length : Int)).toNat, by omega⟩
  rw [hj]
  have hj2 : j < xs.length := by omega
  exact ⟨xs[j], atI_nat (by rw [List.getElem?_map, List.getElem?_eq_getElem hj2]; rfl)⟩
/-- a product of two below 2 ^ 31 -/
theorem mul31 {a b : Int} (h0 : 0 ≤ a) (h1 : a < 2147483648) (h2 : 0 ≤ b) (h3 : b < 2147600000) : 0 ≤ a * b ∧ a * b < 4611686018427387904 * 2 := by
  refine ⟨Int.mul_nonneg h0 h2, ?_⟩
  have := Int.mul_le_mul (by omega : a ≤ 2147483647) (by omega : b ≤ 2147600000) h2 (by decide)
  omega
theorem at_in {xs : List V} {i : Int} (h0 : 0 ≤ i) (h1 : i < (xs.length : Int)) : ∃ v, atI xs i = some v ∧ v ∈ xs := by
  obtain ⟨j, rfl⟩ : ∃ j : Nat, i = (j : Int) := ⟨i.toNat, by omega⟩
  have hj2 : j < xs.length := by omega
  exact ⟨xs[j], atI_nat (List.getElem?_eq_getElem hj2), List.getElem_mem hj2⟩
end Vg

set_option Elab.async false
set_option linter.all false
set_option maxRecDepth 100000
set_option maxHeartbeats 2000000
namespace Vg
open PySem PySem.Spec PyProof.Rows L2
/-! ### lists of ints as data -/
theorem dp_ints {K : PySem.W.Frag} {H : Hp} : ∀ ns : List Int, DpAll K H (ns.map V.int) (ns.map PyData.int)
  | [] => .nil
  | n :: r => .cons (.int n) (dp_ints r)
theorem lay_ints : ∀ ns : List Int, PyData.canLayAll0 (ns.map PyData.int) = true
  | [] => by simp [PyData.canLayAll0]
  | n :: r => by
    have h := lay_ints r
    simp only [List.map_cons, PyData.canLayAll0, PyData.canLay0, h, Bool.and_self]
theorem depth_ints : ∀ ns : List Int, PyData.depthAll (ns.map PyData.int) = 0
  | [] => by simp [PyData.depthAll]
  | n :: r => by
    have h := depth_ints r
    simp only [List.map_cons, PyData.depthAll, PyData.depth, h, Nat.max_self]
theorem shaped_ints (ns : List Int) : SeqAt.shaped (.list (ns.map PyData.int)) = true := by
  unfold SeqAt.shaped
  rw [show PyData.canLay0 (.list (ns.map PyData.int)) = true by simp only [PyData.canLay0]; exact lay_ints ns,
    show PyData.depth (.list (ns.map PyData.int)) = 1 by simp only [PyData.depth]; rw [depth_ints]]
  rfl
theorem eqv_nil (ns : List Int) : PyData.eqv (.list (ns.map PyData.int)) (.list []) = ns.isEmpty := by
  cases ns with
  | nil => simp [PyData.eqv, PyData.eqvAll]
  | cons n r => simp [PyData.eqv, PyData.eqvAll]
/-! ### small things -/
theorem seq_nat {i n : Nat} (h : i < n) : seqIndex? (i : Int) n = some i := by
  unfold seqIndex?
  have h1 : ¬ ((i : Int) < 0) := by omega
  simp [h1, h]
theorem map_erase (l : List Int) (i : Nat) : (l.eraseIdx i).map V.int = (l.map V.int).eraseIdx i := by
  induction l generalizing i with
  | nil => rfl
  | cons x r ih =>
    cases i with
    | zero => rfl
    | succ j => simp only [List.eraseIdx_cons_succ, List.map_cons, ih]
theorem perm_erase {l : List Int} {i : Nat} (h : i < l.length) : ([l[i]] ++ l.eraseIdx i).Perm l := by
  induction l generalizing i with
  | nil => cases h
  | cons x r ih =>
    cases i with
    | zero => exact List.Perm.refl _
    | succ j =>
      have hj : j < r.length := by simpa using h
      show (r[j] :: x :: r.eraseIdx j).Perm (x :: r)
      exact (List.Perm.swap _ _ _).trans ((ih hj).cons x)
theorem mem_cut {xs : List V} {lo hi : Option Int} {v : V} (h : v ∈ cutV xs lo hi) : v ∈ xs := by
  unfold cutV at h
  exact List.mem_of_mem_drop (List.mem_of_mem_take h)
/-- products of the primes up to 13 -/
inductive Sm : Int → Prop where
  | one : Sm 1
  | mul {m q : Int} : Sm m → q ∈ [2, 3, 5, 7, 11, 13] → Sm (m * q)
theorem p13 {q : Int} (h : q ∈ ([2, 3, 5, 7, 11, 13] : List Int)) : 2 ≤ q ∧ q ≤ 13 := by
  simp at h; omega
/-- a modulus up to most -/
def sp_modulus : Sp := fun vs H Q _ => ∃ (p L : Addr) (n : Nat) (most : Int), vs = [.ref p, .int most] ∧ PenAt H p L n ∧
  n ≤ 90000000 ∧ 2 ≤ most ∧ most ≤ 1000000000 ∧
  ∀ H' m, But p H H' → PenAt H' p L (n + 20) → 2 ≤ m → m ≤ most → Sm m → Q (.int m) H'
theorem sm2 : Sm 2 := by
  have h := Sm.mul .one (show (2 : Int) ∈ ([2, 3, 5, 7, 11, 13] : List Int) by simp)
  simpa using h
/-! ### chains: the primes taken out of a number, one after another -/
/-- q taken out of x as often as it goes; what is left, and the products on the way -/
def strip (q x last : Int) : Int × List Int :=
  if h : 0 < x ∧ 2 ≤ q ∧ x % q = 0 then
    ((strip q (x / q) (last * q)).1, (last * q) :: (strip q (x / q) (last * q)).2)
  else (x, [])
termination_by x.toNat
decreasing_by
  all_goals
    have h1 : x / q < x := Int.ediv_lt_self_of_pos_of_ne_one h.1 (by omega)
    omega
theorem strip_go {q x last : Int} (h0 : 0 < x) (h1 : 2 ≤ q) (h2 : x % q = 0) :
    strip q x last = ((strip q (x / q) (last * q)).1, (last * q) :: (strip q (x / q) (last * q)).2) := by
  rw [strip, dif_pos ⟨h0, h1, h2⟩]
theorem strip_end {q x last : Int} (h2 : ¬ x % q = 0) : strip q x last = (x, []) := by
  rw [strip, dif_neg (fun z => h2 z.2.2)]
/-- a turn: x is q times its quotient -/
theorem div_turn {q x : Int} (h0 : 0 < x) (h1 : 2 ≤ q) (h2 : x % q = 0) : q * (x / q) = x ∧ 0 < x / q := by
  have e : q * (x / q) = x := Int.mul_ediv_cancel' (Int.dvd_of_emod_eq_zero h2)
  refine ⟨e, ?_⟩
  rcases Int.lt_or_le 0 (x / q) with h | h
  · exact h
  · have := Int.mul_nonneg (show 0 ≤ q by omega) (show 0 ≤ -(x / q) by omega)
    rw [Int.mul_neg] at this
    omega
/-- the primes of a list one after another -/
def goAll : List Int → Int → Int → Int × List Int
  | [], x, _ => (x, [])
  | q :: qs, x, last =>
    ((goAll qs (strip q x last).1 ((strip q x last).2.getLastD last)).1,
      (strip q x last).2 ++ (goAll qs (strip q x last).1 ((strip q x last).2.getLastD last)).2)
def P6 : List Int := [2, 3, 5, 7, 11, 13]
def chainL (m : Int) : List Int := 1 :: (goAll P6 m 1).2
def isModI (n : Int) : Bool := decide (2 ≤ n) && decide (n ≤ 1000000000) && decide ((goAll P6 n 1).1 = 1)
def isModV : V → Bool
  | .int n => isModI n
  | _ => false
/-- what is left hangs on x alone -/
theorem strip_fst (q : Int) : ∀ (k : Nat) (x a b : Int), x.toNat ≤ k → (strip q x a).1 = (strip q x b).1 := by
  intro k
  induction k with
  | zero =>
    intro x a b h
    rw [strip, dif_neg (fun z => by have := z.1; omega), strip, dif_neg (fun z => by have := z.1; omega)]
  | succ k ih =>
    intro x a b h
    by_cases c : 0 < x ∧ 2 ≤ q ∧ x % q = 0
    · rw [strip_go c.1 c.2.1 c.2.2, strip_go c.1 c.2.1 c.2.2]
      refine ih _ _ _ ?_
      have h1 : x / q < x := Int.ediv_lt_self_of_pos_of_ne_one c.1 (by omega)
      omega
    · rw [strip, dif_neg c, strip, dif_neg c]
theorem goAll_fst : ∀ (qs : List Int) (x a b : Int), (goAll qs x a).1 = (goAll qs x b).1
  | [], _, _, _ => rfl
  | q :: qs, x, a, b => by
    show (goAll qs (strip q x a).1 _).1 = (goAll qs (strip q x b).1 _).1
    rw [strip_fst q x.toNat x a b (Nat.le_refl _)]
    exact goAll_fst qs _ _ _
/-- a state on the way: the list that is kept, what is left; the end is known -/
structure Way (m : Int) (qs : List Int) (pre : List Int) (x : Int) : Prop where
  last : ∃ ini last, pre = ini ++ [last] ∧ last * x = m ∧ 2 ^ ini.length ≤ last.toNat ∧ 1 ≤ last
  pos : 0 < x
  ends : ∀ ini last, pre = ini ++ [last] → chainL m = pre ++ (goAll qs x last).2 ∧ (goAll P6 m 1).1 = (goAll qs x last).1
  low : ∀ ini last, pre = ini ++ [last] → ∀ z ∈ ini, 1 ≤ z ∧ z ≤ last
/-- within a prime's turns -/
structure WayQ (m q : Int) (qs : List Int) (pre : List Int) (x : Int) : Prop where
  last : ∃ ini last, pre = ini ++ [last] ∧ last * x = m ∧ 2 ^ ini.length ≤ last.toNat ∧ 1 ≤ last
  pos : 0 < x
  ends : ∀ ini last, pre = ini ++ [last] → chainL m = pre ++ (goAll (q :: qs) x last).2 ∧ (goAll P6 m 1).1 = (goAll (q :: qs) x last).1
  low : ∀ ini last, pre = ini ++ [last] → ∀ z ∈ ini, 1 ≤ z ∧ z ≤ last
theorem Way.start {m : Int} (h : 1 ≤ m) : Way m P6 [1] m := by
  refine ⟨⟨[], 1, rfl, by omega, by decide, by decide⟩, by omega, ?_, ?_⟩
  · intro ini last e
    cases ini with
    | nil => cases e; exact ⟨rfl, rfl⟩
    | cons a r => simp at e
  · intro ini last e z hz
    cases ini with
    | nil => cases hz
    | cons a r => simp at e
theorem Way.q {m q : Int} {qs pre : List Int} {x : Int} (w : Way m (q :: qs) pre x) : WayQ m q qs pre x := ⟨w.last, w.pos, w.ends, w.low⟩
theorem app_last {ini : List Int} {a : Int} {pre : List Int} {ini' : List Int} {b : Int} (e : pre = ini ++ [a]) (e' : pre = ini' ++ [b]) : ini = ini' ∧ a = b := by
  rw [e] at e'
  have := List.append_inj' e' rfl
  exact ⟨this.1, by simpa using this.2⟩
theorem WayQ.turn {m q : Int} {qs pre : List Int} {x last : Int} {ini : List Int} (w : WayQ m q qs pre x) (e : pre = ini ++ [last]) (hq : 2 ≤ q) (h : x % q = 0) :
    WayQ m q qs (pre ++ [last * q]) (x / q) := by
  obtain ⟨ini', last', e', h1, h2, h3⟩ := w.last
  obtain ⟨rfl, rfl⟩ := app_last e e'
  obtain ⟨d1, d2⟩ := div_turn w.pos hq h
  have hl : 2 * last ≤ last * q := by
    have := Int.mul_le_mul_of_nonneg_left hq (show 0 ≤ last by omega)
    omega
  refine ⟨⟨ini ++ [last], last * q, by rw [e], ?_, ?_, by omega⟩, d2, ?_, ?_⟩
  · rw [Int.mul_assoc, d1, h1]
  · rw [List.length_append, List.length_singleton, Nat.pow_succ]
    omega
  · intro ini2 last2 e2
    have := app_last (a := last * q) (ini := pre) rfl e2
    obtain ⟨rfl, rfl⟩ := this
    obtain ⟨k1, k2⟩ := w.ends ini last e
    rw [k1, k2]
    have g := strip_go (last := last) w.pos hq h
    have gl : (strip q x last).2.getLastD last = (strip q (x / q) (last * q)).2.getLastD (last * q) := by
      rw [g]
      cases (strip q (x / q) (last * q)).2 <;> rfl
    constructor
    · show pre ++ ((strip q x last).2 ++ (goAll qs (strip q x last).1 ((strip q x last).2.getLastD last)).2) =
        pre ++ [last * q] ++ ((strip q (x / q) (last * q)).2 ++ (goAll qs (strip q (x / q) (last * q)).1 ((strip q (x / q) (last * q)).2.getLastD (last * q))).2)
      rw [gl, g]
      simp
    · show (goAll qs (strip q x last).1 ((strip q x last).2.getLastD last)).1 =
        (goAll qs (strip q (x / q) (last * q)).1 ((strip q (x / q) (last * q)).2.getLastD (last * q))).1
      rw [gl, g]
  · intro ini2 last2 e2 z hz
    have := app_last (a := last * q) (ini := pre) rfl e2
    obtain ⟨rfl, rfl⟩ := this
    rw [e] at hz
    rcases List.mem_append.mp hz with hz | hz
    · have := w.low ini last e z hz
      omega
    · have := List.mem_singleton.mp hz
      omega
theorem WayQ.out {m q : Int} {qs pre : List Int} {x : Int} (w : WayQ m q qs pre x) (h : ¬ x % q = 0) : Way m qs pre x := by
  refine ⟨w.last, w.pos, ?_, w.low⟩
  intro ini last e
  obtain ⟨k1, k2⟩ := w.ends ini last e
  rw [k1, k2]
  have g := strip_end (last := last) h
  constructor
  · show pre ++ ((strip q x last).2 ++ (goAll qs (strip q x last).1 ((strip q x last).2.getLastD last)).2) = _
    rw [g]; rfl
  · show (goAll qs (strip q x last).1 ((strip q x last).2.getLastD last)).1 = _
    rw [g]; rfl
theorem Way.done {m : Int} {pre : List Int} {x : Int} (w : Way m [] pre x) : chainL m = pre ∧ (goAll P6 m 1).1 = x := by
  obtain ⟨ini, last, e, _⟩ := w.last
  obtain ⟨k1, k2⟩ := w.ends ini last e
  exact ⟨by rw [k1]; simp [goAll], k2⟩
/-- the list stays short -/
theorem short_way {m x last : Int} {ini : List Int} (h1 : last * x = m) (h2 : 2 ^ ini.length ≤ last.toNat) (hx : 0 < x) (hl : 1 ≤ last) (hm : m ≤ 1000000000) : ini.length ≤ 30 ∧ last ≤ 1000000000 := by
  have hlm : last ≤ m := by
    have := Int.mul_le_mul_of_nonneg_left (show 1 ≤ x by omega) (show 0 ≤ last by omega)
    omega
  refine ⟨?_, by omega⟩
  rcases Nat.lt_or_ge 30 ini.length with h | h
  · have h3 : 2 ^ 31 ≤ 2 ^ ini.length := Nat.pow_le_pow_right (by decide) h
    have h4 : (2 : Nat) ^ 31 = 2147483648 := by decide
    omega
  · exact h
theorem map_snoc (l : List Int) (a : Int) : (l ++ [a]).map V.int = l.map V.int ++ [.int a] := by
  rw [List.map_append]; rfl
theorem pe_globR {X : Cx} {x : Str} {pos : Pos} {a : Addr} (hg : Gl X x) (h : X.mg x = some (.ref a))
    (hdb : (x == ("__debug__" : Str)) = false := by decide) : PE X (.Name x pos) (tC (.ref a)) :=
  pe_glob hg h (show RelV (.ref a) _ from rfl) hdb
theorem WayQ.all {m q : Int} {qs : List Int} (hq : 2 ≤ q) : ∀ (k : Nat) (pre : List Int) (x : Int), x.toNat ≤ k → WayQ m q qs pre x → ∃ pre' x', Way m qs pre' x' := by
  intro k
  induction k with
  | zero => intro pre x h w; have := w.pos; omega
  | succ k ih =>
    intro pre x h w
    by_cases c : x % q = 0
    · obtain ⟨ini, last, e, _⟩ := w.last
      have h1 : x / q < x := Int.ediv_lt_self_of_pos_of_ne_one w.pos (by omega)
      exact ih _ _ (by omega) (w.turn e hq c)
    · exact ⟨pre, x, w.out c⟩
theorem Way.all {m : Int} : ∀ (qs : List Int) (pre : List Int) (x : Int), (∀ q ∈ qs, 2 ≤ q) → Way m qs pre x → ∃ pre' x', Way m [] pre' x'
  | [], pre, x, _, w => ⟨pre, x, w⟩
  | q :: qs, pre, x, hq, w => by
    obtain ⟨pre', x', w'⟩ := WayQ.all (hq q (List.mem_cons_self ..)) _ pre x (Nat.le_refl _) w.q
    exact Way.all qs pre' x' (fun z hz => hq z (List.mem_cons_of_mem _ hz)) w'
theorem chain_last {m : Int} (h : 1 ≤ m) : ∃ ini last, chainL m = ini ++ [last] ∧ last * (goAll P6 m 1).1 = m ∧ 1 ≤ last ∧ 0 < (goAll P6 m 1).1 := by
  obtain ⟨pre, x, w⟩ := Way.all P6 [1] m (by intro q hq; have := p13 (q := q) hq; omega) (Way.start h)
  obtain ⟨d1, d2⟩ := w.done
  obtain ⟨ini, last, e, h1, _, h3⟩ := w.last
  exact ⟨ini, last, by rw [d1, e], by rw [d2]; exact h1, h3, by rw [d2]; exact w.pos⟩
/-! ### whole numbers among values -/
def isI : V → Bool
  | .int _ => true
  | _ => false
/-- what isinstance tells of a value, for int and for bool -/
def Kd (K : PySem.W.Frag) (H : Hp) (x : V) : Prop := ∃ (t : Value) (bi bb : Bool), TyX K H x t ∧
  PySem.W.kitOne K t (.type "int") = some bi ∧ PySem.W.kitOne K t (.type "bool") = some bb ∧ (bi && !bb) = isI x
section
variable {K : PySem.W.Frag} {H H' : Hp}
theorem kd_int (i : Int) : Kd K H (.int i) := ⟨_, true, false, .base (.int i), kit_ty (by decide +kernel), kit_ty (by decide +kernel), rfl⟩
theorem kd_bl (b : Bool) : Kd K H (.bl b) := ⟨_, true, true, .base (.bl b), kit_ty (by decide +kernel), kit_ty (by decide +kernel), rfl⟩
theorem kd_non : Kd K H .non := ⟨_, false, false, .base .non, kit_ty (by decide +kernel), kit_ty (by decide +kernel), rfl⟩
theorem kd_str (x : Str) : Kd K H (.str x) := ⟨_, false, false, .base (.str x), kit_ty (by decide +kernel), kit_ty (by decide +kernel), rfl⟩
theorem kd_lst {a : Addr} {xs : List V} (h : H a = some (.lst xs)) : Kd K H (.ref a) := ⟨_, false, false, .base (.lst h), kit_ty (by decide +kernel), kit_ty (by decide +kernel), rfl⟩
theorem kd_tup {a : Addr} {xs : List V} (h : H a = some (.tup xs)) : Kd K H (.ref a) := ⟨_, false, false, .base (.tup h), kit_ty (by decide +kernel), kit_ty (by decide +kernel), rfl⟩
theorem kd_dK {a : Addr} {xs : List (Key × V)} (h : H a = some (.dK xs)) : Kd K H (.ref a) := ⟨_, false, false, .base (.dK h), kit_ty (by decide +kernel), kit_ty (by decide +kernel), rfl⟩
end
def betw (x : V) (lo hi : Int) : Bool := match x with
  | .int n => decide (lo ≤ n) && decide (n ≤ hi)
  | _ => false
def sp_whole (K : PySem.W.Frag) : Sp := fun vs H Q _ => ∃ x, vs = [x] ∧ Kd K H x ∧ Q (.bl (isI x)) H
def sp_between (K : PySem.W.Frag) : Sp := fun vs H Q _ => ∃ x lo hi, vs = [x, .int lo, .int hi] ∧ Kd K H x ∧ Q (.bl (betw x lo hi)) H
def sp_ismod (K : PySem.W.Frag) : Sp := fun vs H Q _ => ∃ x, vs = [x] ∧ Kd K H x ∧ ∀ H', Same H H' → Q (.bl (isModV x)) H'
theorem pe_ty {X : Cx} {x : Str} {pos : Pos} {n : String} (hg : Gl X x) (hm : X.mg x = none)
    (hv : bootBuiltins x = some (.type n)) (hn : x ≠ "__name__" := by decide)
    (hd : (x == ("__debug__" : Str)) = false := by decide) : PE X (.Name x pos) (tC (.ty n)) :=
  pe_bltn hg hm hv (show RelV (.ty n) _ from rfl) hn hd
/-- a chain's numbers are few and no greater than m -/
theorem chain_small {m : Int} (h : 1 ≤ m) (h9 : m ≤ 1000000000) : (chainL m).length ≤ 40 ∧ ∀ z ∈ chainL m, 1 ≤ z ∧ z ≤ 1000000000 := by
  obtain ⟨pre, x, w⟩ := Way.all P6 [1] m (by intro q hq; have := p13 (q := q) hq; omega) (Way.start h)
  obtain ⟨d1, d2⟩ := w.done
  obtain ⟨ini, last, e, h1, h2, h3⟩ := w.last
  have sh := short_way h1 h2 w.pos h3 h9
  rw [d1, e]
  refine ⟨by rw [List.length_append, List.length_singleton]; omega, ?_⟩
  intro z hz
  rcases List.mem_append.mp hz with hz | hz
  · have := w.low ini last e z hz
    omega
  · have := List.mem_singleton.mp hz
    omega
/-! ### what repr asks of ints, bools -/
theorem show_ints : ∀ (ns : List Int), (∀ z ∈ ns, z.natAbs < 1000000000000) → PyData.showableAll (ns.map PyData.int) = true
  | [], _ => by simp [PyData.showableAll]
  | n :: r, h => by
    have h1 := show_ints r (fun z hz => h z (List.mem_cons_of_mem _ hz))
    have h2 : n.natAbs < 2 ^ 64 := Nat.lt_of_lt_of_le (h n (List.mem_cons_self ..)) (by decide)
    have h3 : n.natAbs.log2 < 1920 := Nat.lt_of_lt_of_le (PySem.Flt.log2_lt_of (by decide) h2) (by decide)
    simp only [List.map_cons, PyData.showableAll, PyData.showable, h1, Bool.and_true]
    exact decide_eq_true h3
theorem int_short {n : Int} (h : n.natAbs < 1000000000000) : (PyData.int n).leavesShort 13 = true := by
  have e : (PyData.shown (.int n)).length ≤ 13 := by
    have e1 := int_text_length_le10 (a := n) (k := 12) (by decide) (Nat.lt_of_lt_of_le h (by decide))
    show (Str.ofString (toString n)).length ≤ 13
    rw [PySem.ofString_length]
    omega
  simp only [PyData.leavesShort]
  exact decide_eq_true e
theorem short_ints : ∀ (ns : List Int), (∀ z ∈ ns, z.natAbs < 1000000000000) → PyData.leavesShortAll 13 (ns.map PyData.int) = true
  | [], _ => by simp [PyData.leavesShortAll]
  | n :: r, h => by
    have h1 := short_ints r (fun z hz => h z (List.mem_cons_of_mem _ hz))
    have h2 := int_short (h n (List.mem_cons_self ..))
    simp only [List.map_cons, PyData.leavesShortAll, h1, h2, Bool.and_true]
theorem bulk_ints : ∀ (ns : List Int), PyData.bulkAll (ns.map PyData.int) = ns.length
  | [] => by simp [PyData.bulkAll]
  | n :: r => by
    have h1 := bulk_ints r
    simp only [List.map_cons, PyData.bulkAll, PyData.bulk, h1, List.length_cons]
    omega
/-- what repr asks of a value -/
structure Rp (K : PySem.W.Frag) (H : Hp) (v : V) (d : PyData) : Prop where
  dp : Dp K H v d
  sh : d.showable = true
  de : d.depth ≤ 60
  le : d.shown.length ≤ sizeLine
theorem rp_ints {K : PySem.W.Frag} {H : Hp} {a : Addr} {ns : List Int} (h : SqL K H a (ns.map V.int)) (hn : ∀ z ∈ ns, z.natAbs < 1000000000000)
    (hl : ns.length ≤ 100000) : Rp K H (.ref a) (.list (ns.map PyData.int)) := by
  refine ⟨Dp.lst h (dp_ints ns), ?_, ?_, ?_⟩
  · simp only [PyData.showable]; exact show_ints ns hn
  · simp only [PyData.depth]; rw [depth_ints]; decide
  · refine PyData.shown_fits_bulk (B := 13) (by decide) (by decide) ?_ ?_
    · simp only [PyData.leavesShort]; exact short_ints ns hn
    · simp only [PyData.bulk]; rw [bulk_ints]; exact Nat.le_trans hl (by decide)
theorem rp_bool {K : PySem.W.Frag} {H : Hp} (b : Bool) : Rp K H (.bl b) (.bool b) := by
  refine ⟨Dp.bl b, by simp only [PyData.showable], by simp [PyData.depth], ?_⟩
  cases b <;> decide
theorem pick3 {v a b c : V} {Q : Prop} (h : v ∈ [a, b, c]) (h1 : v = a → Q) (h2 : v = b → Q) (h3 : v = c → Q) : Q := by
  simp only [List.mem_cons, List.mem_nil_iff, or_false] at h
  rcases h with h | h | h
  · exact h1 h
  · exact h2 h
  · exact h3 h
/-- its kind is known in each later heap -/
def Ks (K : PySem.W.Frag) (H0 : Hp) (v : V) : Prop := ∀ H', Same H0 H' → Kd K H' v
section
variable {K : PySem.W.Frag} {H0 : Hp}
theorem ks_nil : ∀ v ∈ ([] : List V), Ks K H0 v := fun _ h => by cases h
theorem ks_cons {v : V} {vs : List V} (h : Ks K H0 v) (r : ∀ x ∈ vs, Ks K H0 x) : ∀ x ∈ v :: vs, Ks K H0 x := fun x hx => by
  rcases List.mem_cons.mp hx with e | e
  · rw [e]; exact h
  · exact r x e
theorem ks_app {vs ws : List V} (h : ∀ x ∈ vs, Ks K H0 x) (r : ∀ x ∈ ws, Ks K H0 x) : ∀ x ∈ vs ++ ws, Ks K H0 x := fun x hx => by
  rcases List.mem_append.mp hx with e | e
  · exact h x e
  · exact r x e
theorem ks_int (i : Int) : Ks K H0 (.int i) := fun _ _ => kd_int i
theorem ks_bl (b : Bool) : Ks K H0 (.bl b) := fun _ _ => kd_bl b
theorem ks_non : Ks K H0 .non := fun _ _ => kd_non
theorem ks_str (x : Str) : Ks K H0 (.str x) := fun _ _ => kd_str x
theorem ks_lst {a : Addr} {xs : List V} (h : H0 a = some (.lst xs)) : Ks K H0 (.ref a) := fun _ s => kd_lst (s _ _ h)
theorem ks_tup {a : Addr} {xs : List V} (h : H0 a = some (.tup xs)) : Ks K H0 (.ref a) := fun _ s => kd_tup (s _ _ h)
theorem ks_dK {a : Addr} {xs : List (Key × V)} (h : H0 a = some (.dK xs)) : Ks K H0 (.ref a) := fun _ s => kd_dK (s _ _ h)
end
/-- the module's name x is the built-in id -/
def bltB (K : PySem.W.Frag) (x : Str) (id : String) : Bool := He.eqO (PySem.W.nsIn K mainGlobals x) (some (some (.builtin id)))
theorem bltB_ok {K : PySem.W.Frag} {h : Heap} {mg : Str → Option Value} (X : K.In h) (G : h.Ns mainGlobals mg) {x : Str} {id : String}
    (c : bltB K x id = true) : mg x = some (.builtin id) := PySem.W.mg_of X G (He.eqO_ok c)
end Vg

set_option Elab.async false
set_option linter.all false
set_option maxRecDepth 100000
set_option maxHeartbeats 2000000
namespace Vg
open PySem PySem.Spec PyProof.Rows L2
/-! ### greatest common divisors -/
def gcdI (a b : Int) : Int := ((Nat.gcd a.toNat b.toNat : Nat) : Int)
theorem gcd_step {a b : Int} (ha : 0 ≤ a) (hb : 0 < b) : gcdI b (a.fmod b) = gcdI a b := by
  obtain ⟨x, rfl⟩ : ∃ x : Nat, a = (x : Int) := ⟨a.toNat, by omega⟩
  obtain ⟨y, rfl⟩ : ∃ y : Nat, b = (y : Int) := ⟨b.toNat, by omega⟩
  rw [Int.fmod_eq_emod_of_nonneg _ (by omega)]
  show ((Nat.gcd (y : Int).toNat ((x : Int) % (y : Int)).toNat : Nat) : Int) = ((Nat.gcd (x : Int).toNat (y : Int).toNat : Nat) : Int)
  have e : ((x : Int) % (y : Int)).toNat = x % y := by
    rw [← Int.natCast_emod]; rfl
  rw [e]
  show ((Nat.gcd y (x % y) : Nat) : Int) = ((Nat.gcd x y : Nat) : Int)
  rw [Nat.gcd_comm y (x % y), ← Nat.gcd_rec, Nat.gcd_comm]
theorem gcd_end {a : Int} (ha : 0 ≤ a) : gcdI a 0 = a := by
  unfold gcdI
  simp
  omega
def sp_lgcd : Sp := fun vs H Q _ => ∃ a b : Int, vs = [.int a, .int b] ∧ 0 ≤ a ∧ 0 ≤ b ∧ Q (.int (gcdI a b)) H
/-! ### divisors -/
theorem pow_turn {p : Int} (hp : 2 ≤ p) (e : Nat) : 4 * (((e : Int) + 1) * ((e : Int) + 1)) ≤ 9 * p ^ e := by
  have h2 : ∀ e : Nat, 4 * (((e : Int) + 1) * ((e : Int) + 1)) ≤ 9 * 2 ^ e := by
    intro e
    induction e with
    | zero => decide
    | succ e ih =>
      rcases e with _ | _ | e
      · decide
      · decide
      · rw [Int.pow_succ]
        have e1 : (((e + 1 + 1 + 1 : Nat) : Int) + 1) * (((e + 1 + 1 + 1 : Nat) : Int) + 1) ≤ 2 * ((((e + 1 + 1 : Nat) : Int) + 1) * (((e + 1 + 1 : Nat) : Int) + 1)) := by
          generalize hx : (e : Int) = x
          have hx0 : 0 ≤ x := by omega
          have e2 : (((e + 1 + 1 + 1 : Nat) : Int) + 1) = x + 4 := by omega
          have e3 : (((e + 1 + 1 : Nat) : Int) + 1) = x + 3 := by omega
          rw [e2, e3]
          have := Int.mul_nonneg hx0 hx0
          have e4 : (x + 4) * (x + 4) = x * x + 8 * x + 16 := by
            rw [Int.add_mul, Int.mul_add, Int.mul_add]; omega
          have e5 : (x + 3) * (x + 3) = x * x + 6 * x + 9 := by
            rw [Int.add_mul, Int.mul_add, Int.mul_add]; omega
          rw [e4, e5]
          omega
        generalize (2 : Int) ^ (e + 1 + 1) = z at ih ⊢
        omega
  have h3 : (2 : Int) ^ e ≤ p ^ e := by
    induction e with
    | zero => simp
    | succ e ih =>
      rw [Int.pow_succ, Int.pow_succ]
      have h0 : (0 : Int) ≤ 2 ^ e := Int.pow_nonneg (by decide)
      exact Int.mul_le_mul ih hp (by decide) (Int.le_trans h0 ih)
  have := h2 e
  omega
def sp_divisors : Sp := fun vs H Q _ => ∃ m : Int, vs = [.int m] ∧ 1 ≤ m ∧ m ≤ 1000000000 ∧
  ∀ H' l (ds : List Int), Same H H' → H l = none → H' l = some (.lst (ds.map V.int)) → 0 < ds.length → ds.length ≤ 400000 → (∀ d ∈ ds, 1 ≤ d ∧ d ∣ m ∧ d ≤ m) → Q (.ref l) H'
/-- a unit modulo m -/
def Unit' (m u : Int) : Prop := 0 ≤ u ∧ u < m ∧ gcdI u m = 1
def sp_unit : Sp := fun vs H Q _ => ∃ (p L : Addr) (n : Nat) (m : Int), vs = [.ref p, .int m] ∧ PenAt H p L n ∧ n ≤ 95000000 ∧ 2 ≤ m ∧ m ≤ 1000000000 ∧
  ∀ H' u, But p H H' → PenAt H' p L (n + 4) → Unit' m u → Q (.int u) H'
def sp_lmap : Sp := fun vs H Q _ => ∃ (p L : Addr) (n : Nat) (m : Int), vs = [.ref p, .int m] ∧ PenAt H p L n ∧ n ≤ 90000000 ∧ 2 ≤ m ∧ m ≤ 1000000000 ∧
  ∀ H' t u b, But p H H' → PenAt H' p L (n + 6) → Unit' m u → 0 ≤ b → b < m → H t = none → H' t = some (.tup [.int u, .int b]) → Q (.ref t) H'
theorem dv_le {d m : Int} (h : d ∣ m) (hm : 0 < m) : d ≤ m := Int.le_of_dvd hm h
theorem dp1 {a b : Int} : decide (V.int a = V.int b) = decide (a = b) := by
  by_cases h : a = b
  · subst h; simp
  · have : ¬ (V.int a = V.int b) := fun z => h (V.int.inj z)
    rw [decide_eq_false h, decide_eq_false this]
theorem at_lst {ini : List Int} {last : Int} : atI ((ini ++ [last]).map V.int) (-1) = some (.int last) := by
  rw [List.map_append]
  exact atI_last _ _
theorem p6v {i : Nat} {v : V} (h : ([V.int 2, .int 3, .int 5, .int 7, .int 11, .int 13] : List V)[i]? = some v) :
    ∃ q, v = .int q ∧ 2 ≤ q ∧ q ≤ 13 := by
  rcases i with _ | _ | _ | _ | _ | _ | i
  · cases h; exact ⟨2, rfl, by decide, by decide⟩
  · cases h; exact ⟨3, rfl, by decide, by decide⟩
  · cases h; exact ⟨5, rfl, by decide, by decide⟩
  · cases h; exact ⟨7, rfl, by decide, by decide⟩
  · cases h; exact ⟨11, rfl, by decide, by decide⟩
  · cases h; exact ⟨13, rfl, by decide, by decide⟩
  · simp at h
/-- the divisors found so far, what is left; i primes are done -/
structure Dv (m : Int) (i : Nat) (ds : List Int) (left : Int) : Prop where
  pos : 0 < left
  le : left ≤ m
  few : 4 ^ i * (((ds.length : Int) * (ds.length : Int)) * left) ≤ 9 ^ i * m
  ne : 0 < ds.length
  dv : ∀ d ∈ ds, 1 ≤ d ∧ d * left ∣ m
/-- the powers of p found so far, from left0 down to left -/
structure Pw (p left0 : Int) (ps : List Int) (left : Int) : Prop where
  ex : ∃ (ini : List Int) (last : Int), ps = ini ++ [last] ∧ 1 ≤ last ∧ last * left = left0 ∧ last = p ^ ini.length
  pos : 0 < left
  dv : ∀ f ∈ ps, 1 ≤ f ∧ f * left ∣ left0
theorem Dv.start {m : Int} (h : 1 ≤ m) : Dv m 0 [1] m := ⟨by omega, by omega, by simp, by simp, fun d hd => by
  have := List.mem_singleton.mp hd
  subst this
  exact ⟨by decide, by rw [Int.one_mul]; exact Int.dvd_refl m⟩⟩
theorem Pw.start {p l : Int} (h : 0 < l) : Pw p l [1] l := ⟨⟨[], 1, rfl, by decide, by omega, by simp⟩, h, fun d hd => by
  have := List.mem_singleton.mp hd
  subst this
  exact ⟨by decide, by rw [Int.one_mul]; exact Int.dvd_refl l⟩⟩
theorem Pw.turn {p l0 : Int} {ps : List Int} {l last : Int} {ini : List Int} (w : Pw p l0 ps l) (e : ps = ini ++ [last]) (hp : 2 ≤ p) (h : l % p = 0) :
    Pw p l0 (ps ++ [last * p]) (l / p) := by
  obtain ⟨ini', last', e', h1, h2, h3⟩ := w.ex
  obtain ⟨rfl, rfl⟩ := app_last e e'
  obtain ⟨d1, d2⟩ := div_turn w.pos hp h
  have hl : 2 * last ≤ last * p := by
    have := Int.mul_le_mul_of_nonneg_left hp (show 0 ≤ last by omega)
    omega
  refine ⟨⟨ini ++ [last], last * p, by rw [e], by omega, ?_, ?_⟩, d2, ?_⟩
  · rw [Int.mul_assoc, d1, h2]
  · rw [List.length_append, List.length_singleton, Int.pow_succ, h3]
  · intro f hf
    rcases List.mem_append.mp hf with hf | hf
    · obtain ⟨k1, k2⟩ := w.dv f hf
      refine ⟨k1, Int.dvd_trans ?_ k2⟩
      exact Int.mul_dvd_mul_left f ⟨p, by rw [Int.mul_comm]; exact d1.symm⟩
    · have := List.mem_singleton.mp hf
      subst this
      refine ⟨by omega, ?_⟩
      rw [Int.mul_assoc, d1, h2]
      exact Int.dvd_refl _
/-- all products of the divisors and the powers -/
theorem Dv.step {m : Int} {i : Nat} {ds ps es : List Int} {l0 l p : Int} (w : Dv m i ds l0) (q : Pw p l0 ps l) (hp : 2 ≤ p)
    (hl : es.length = ps.length * ds.length) (he : ∀ e ∈ es, ∃ d ∈ ds, ∃ f ∈ ps, e = d * f) : Dv m (i + 1) es l := by
  obtain ⟨ini, last, e, h1, h2, h3⟩ := q.ex
  have hpl : (ps.length : Int) = (ini.length : Int) + 1 := by rw [e, List.length_append, List.length_singleton]; omega
  have hle : l ≤ l0 := by
    have := Int.mul_le_mul_of_nonneg_right h1 (show 0 ≤ l from Int.le_of_lt q.pos)
    omega
  refine ⟨q.pos, by have := w.le; omega, ?_, ?_, ?_⟩
  · have hd := w.few
    have hpt := pow_turn hp ini.length
    rw [← h3] at hpt
    rw [hl, Int.natCast_mul, hpl, Int.pow_succ, Int.pow_succ]
    generalize ((ini.length : Int) + 1) = c at hpt
    generalize (ds.length : Int) = n at hd
    have e1 : (4 : Int) ^ i * 4 * (c * n * (c * n) * l) = (4 ^ i * (n * n)) * (4 * (c * c) * l) := by
      simp only [Int.mul_assoc, Int.mul_comm, Int.mul_left_comm]
    have e2 : (9 : Int) * last * l = 9 * l0 := by rw [Int.mul_assoc, h2]
    have k1 : 4 * (c * c) * l ≤ 9 * last * l := Int.mul_le_mul_of_nonneg_right hpt (Int.le_of_lt q.pos)
    rw [e2] at k1
    have k0 : (0 : Int) ≤ 4 ^ i * (n * n) := Int.mul_nonneg (Int.pow_nonneg (by decide)) (by
      rcases Int.le_total 0 n with z | z
      · exact Int.mul_nonneg z z
      · exact Int.mul_nonneg_of_nonpos_of_nonpos z z)
    have k2 := Int.mul_le_mul_of_nonneg_left k1 k0
    rw [e1]
    have e3 : 4 ^ i * (n * n) * (9 * l0) = 9 * (4 ^ i * (n * n * l0)) := by
      simp only [Int.mul_assoc, Int.mul_comm, Int.mul_left_comm]
    rw [e3] at k2
    have e4 : (9 : Int) ^ i * 9 * m = 9 * (9 ^ i * m) := by
      simp only [Int.mul_assoc, Int.mul_comm, Int.mul_left_comm]
    rw [e4]
    omega
  · rw [hl]
    have z1 := w.ne
    have z2 : 0 < ps.length := by rw [e]; simp
    exact Nat.mul_pos z2 z1
  · intro z hz
    obtain ⟨d, hd, f, hf, rfl⟩ := he z hz
    obtain ⟨a1, a2⟩ := w.dv d hd
    obtain ⟨b1, b2⟩ := q.dv f hf
    refine ⟨?_, ?_⟩
    · have := Int.mul_le_mul_of_nonneg_left b1 (show 0 ≤ d by omega)
      omega
    · rw [Int.mul_assoc]
      exact Int.dvd_trans (Int.mul_dvd_mul_left d b2) a2
theorem Dv.short {m : Int} {i : Nat} {ds : List Int} {left : Int} (w : Dv m i ds left) (hi : i ≤ 6) (h9 : m ≤ 1000000000) : ds.length ≤ 400000 := by
  have hf := w.few
  have k1 : (ds.length : Int) * ds.length ≤ (ds.length : Int) * ds.length * left := by
    have := Int.mul_le_mul_of_nonneg_left (show 1 ≤ left from w.pos) (Int.mul_nonneg (Int.natCast_nonneg ds.length) (Int.natCast_nonneg ds.length))
    omega
  rcases Nat.lt_or_ge 400000 ds.length with h | h
  · have k2 : (400000 : Int) * 400000 ≤ (ds.length : Int) * ds.length := Int.mul_le_mul (by omega) (by omega) (by decide) (by omega)
    have k3 : (400000 : Int) * 400000 ≤ (ds.length : Int) * ds.length * left := Int.le_trans k2 k1
    generalize (ds.length : Int) * ds.length * left = z at hf k3
    have hm := w.le
    have hp := w.pos
    have hc : i = 0 ∨ i = 1 ∨ i = 2 ∨ i = 3 ∨ i = 4 ∨ i = 5 ∨ i = 6 := by omega
    rcases hc with rfl | rfl | rfl | rfl | rfl | rfl | rfl <;> simp at hf <;> omega
  · exact h
theorem gcd_one {m : Int} (h : 1 ≤ m) : gcdI 1 m = 1 := by
  unfold gcdI
  have : Nat.gcd (1 : Int).toNat m.toNat = 1 := Nat.gcd_one_left _
  rw [this]; rfl
theorem unit_pos {m u : Int} (hm : 2 ≤ m) (h : Unit' m u) : 1 ≤ u := by
  rcases Int.lt_or_le 0 u with h0 | h0
  · exact h0
  · have e : u = 0 := by have := h.1; omega
    have h3 := h.2.2
    rw [e] at h3
    unfold gcdI at h3
    simp at h3
    omega
/-- how far a number stands from 1, going up, modulo m -/
def far (m x : Int) : Nat := if x ≤ 1 then (1 - x).toNat else (m + 1 - x).toNat
theorem far_turn {m x : Int} (hm : 2 ≤ m) (h0 : 0 ≤ x) (h1 : x < m) (hx : x ≠ 1) : far m ((x + 1).fmod m) < far m x ∧ 0 ≤ (x + 1).fmod m ∧ (x + 1).fmod m < m := by
  have b := fmod_b (a := x + 1) (b := m) (by omega)
  refine ⟨?_, b⟩
  rw [Int.fmod_eq_emod_of_nonneg _ (by omega)] at b ⊢
  by_cases c : x + 1 < m
  · rw [Int.emod_eq_of_lt (by omega) c]
    unfold far
    split <;> split <;> omega
  · have e : x + 1 = m := by omega
    rw [e, Int.emod_self]
    unfold far
    split <;> split <;> omega
theorem pick5v {v a b c d e : V} {Q : Prop} (h : v ∈ [a, b, c, d, e]) (h1 : v = a → Q) (h2 : v = b → Q) (h3 : v = c → Q) (h4 : v = d → Q) (h5 : v = e → Q) : Q := by
  simp only [List.mem_cons, List.mem_nil_iff, or_false] at h
  rcases h with h | h | h | h | h
  · exact h1 h
  · exact h2 h
  · exact h3 h
  · exact h4 h
  · exact h5 h
end Vg

set_option Elab.async false
set_option linter.all false
set_option maxRecDepth 100000
set_option maxHeartbeats 2000000
namespace Vg
open PySem PySem.Spec PyProof.Rows L2
/-! ### congruences -/
def Cg (m a b : Int) : Prop := m ∣ a - b
theorem Cg.refl (m a : Int) : Cg m a a := ⟨0, by simp⟩
theorem Cg.symm {m a b : Int} (h : Cg m a b) : Cg m b a := by
  obtain ⟨k, e⟩ := h
  exact ⟨-k, by rw [Int.mul_neg]; omega⟩
theorem Cg.trans {m a b c : Int} (h : Cg m a b) (g : Cg m b c) : Cg m a c := by
  obtain ⟨k, e⟩ := h
  obtain ⟨l, d⟩ := g
  exact ⟨k + l, by rw [Int.mul_add]; omega⟩
theorem Cg.add {m a b c d : Int} (h : Cg m a b) (g : Cg m c d) : Cg m (a + c) (b + d) := by
  obtain ⟨k, e⟩ := h
  obtain ⟨l, d⟩ := g
  exact ⟨k + l, by rw [Int.mul_add]; omega⟩
theorem Cg.neg {m a b : Int} (h : Cg m a b) : Cg m (-a) (-b) := by
  obtain ⟨k, e⟩ := h
  exact ⟨-k, by rw [Int.mul_neg]; omega⟩
theorem Cg.sub {m a b c d : Int} (h : Cg m a b) (g : Cg m c d) : Cg m (a - c) (b - d) := by
  obtain ⟨k, e⟩ := h
  obtain ⟨l, d⟩ := g
  exact ⟨k - l, by rw [Int.mul_sub]; omega⟩
theorem Cg.mulL {m a b : Int} (c : Int) (h : Cg m a b) : Cg m (c * a) (c * b) := by
  obtain ⟨k, e⟩ := h
  refine ⟨c * k, ?_⟩
  rw [← Int.mul_sub, e, Int.mul_left_comm]
theorem Cg.mulR {m a b : Int} (c : Int) (h : Cg m a b) : Cg m (a * c) (b * c) := by
  rw [Int.mul_comm a, Int.mul_comm b]
  exact h.mulL c
theorem Cg.mul {m a b c d : Int} (h : Cg m a b) (g : Cg m c d) : Cg m (a * c) (b * d) := (h.mulR c).trans (g.mulL b)
theorem Cg.mod (m a : Int) : Cg m (a % m) a := ⟨-(a / m), by
  have := Int.emod_add_mul_ediv a m
  rw [Int.mul_neg]
  omega⟩
theorem Cg.of {m a b : Int} (h : a = b) : Cg m a b := by rw [h]; exact Cg.refl m b
theorem Cg.eq {m a b : Int} (h : Cg m a b) : a % m = b % m := by
  obtain ⟨k, e⟩ := h
  have : a = b + m * k := by omega
  rw [this, Int.add_mul_emod_self_left]
theorem Cg.eqS {m a b : Int} (h : Cg m a b) (a0 : 0 ≤ a) (a1 : a < m) (b0 : 0 ≤ b) (b1 : b < m) : a = b := by
  have := h.eq
  rw [Int.emod_eq_of_lt a0 a1, Int.emod_eq_of_lt b0 b1] at this
  exact this
theorem Cg.self (m k : Int) : Cg m (m * k) 0 := ⟨k, by simp⟩
/-- images of compositions -/
theorem comp_img {m a b c d x : Int} : ((a * c % m) * x + (c * b + d) % m) % m = (c * ((a * x + b) % m) + d) % m := by
  refine Cg.eq (m := m) ?_
  have h1 : Cg m ((a * c % m) * x + (c * b + d) % m) (a * c * x + (c * b + d)) := ((Cg.mod m (a * c)).mulR x).add (Cg.mod m _)
  have h2 : Cg m (c * ((a * x + b) % m) + d) (c * (a * x + b) + d) := ((Cg.mod m (a * x + b)).mulL c).add (Cg.refl m d)
  refine h1.trans ((Cg.of ?_).trans h2.symm)
  rw [Int.mul_add, Int.mul_left_comm c a x, ← Int.mul_assoc a c x]
  omega
theorem inv_img {m a b r x : Int} (h : Cg m (r * a) 1) (x0 : 0 ≤ x) (x1 : x < m) : (r * ((a * x + b) % m) + (-r * b) % m) % m = x := by
  have h1 : Cg m (r * ((a * x + b) % m) + (-r * b) % m) (r * (a * x + b) + -r * b) := ((Cg.mod m _).mulL r).add (Cg.mod m _)
  have h2 : r * (a * x + b) + -r * b = (r * a) * x := by
    rw [Int.mul_add, ← Int.mul_assoc, Int.neg_mul]
    omega
  have h3 : Cg m ((r * a) * x) (1 * x) := h.mulR x
  have h4 := (h1.trans ((Cg.of h2).trans h3)).eq
  rw [h4, Int.one_mul, Int.emod_eq_of_lt x0 x1]
/-- the inverse is one alone -/
theorem inv_uni {m a r s : Int} (h : Cg m (r * a) 1) (g : Cg m (s * a) 1) (r0 : 0 ≤ r) (r1 : r < m) (s0 : 0 ≤ s) (s1 : s < m) : r = s := by
  have h1 : Cg m (r * (s * a)) (r * 1) := g.mulL r
  have h2 : Cg m (s * (r * a)) (s * 1) := h.mulL s
  rw [Int.mul_left_comm] at h1
  have h3 : Cg m r s := by
    have := h1.symm.trans h2
    rw [Int.mul_one, Int.mul_one] at this
    exact this
  exact h3.eqS r0 r1 s0 s1
/-- an inverse is a unit -/
theorem inv_unit {m a r : Int} (hm : 2 ≤ m) (h : Cg m (r * a) 1) (r0 : 0 ≤ r) (r1 : r < m) : Unit' m r := by
  refine ⟨r0, r1, ?_⟩
  unfold gcdI
  have h1 : (Nat.gcd r.toNat m.toNat) ∣ 1 := by
    have d1 : ((Nat.gcd r.toNat m.toNat : Nat) : Int) ∣ r := by
      have := Int.natCast_dvd_natCast.mpr (Nat.gcd_dvd_left r.toNat m.toNat)
      rw [Int.toNat_of_nonneg r0] at this
      exact this
    have d2 : ((Nat.gcd r.toNat m.toNat : Nat) : Int) ∣ m := by
      have := Int.natCast_dvd_natCast.mpr (Nat.gcd_dvd_right r.toNat m.toNat)
      rw [Int.toNat_of_nonneg (by omega)] at this
      exact this
    obtain ⟨k, e⟩ := h
    have e1 : (1 : Int) = r * a - m * k := by omega
    have d3 : ((Nat.gcd r.toNat m.toNat : Nat) : Int) ∣ 1 := by
      rw [e1]
      exact Int.dvd_sub (Int.dvd_trans d1 (Int.dvd_mul_right r a)) (Int.dvd_trans d2 (Int.dvd_mul_right m k))
    exact Int.natCast_dvd_natCast.mp d3
  rw [Nat.dvd_one.mp h1]
  rfl
/-- Euclid's way to the inverse of a -/
structure Euc (m a x y u v : Int) : Prop where
  x0 : 0 ≤ x
  y0 : 0 ≤ y
  le : x ≤ 1000000000 ∧ y ≤ 1000000000
  cx : Cg m x (u * a)
  cy : Cg m y (v * a)
  g : gcdI x y = 1
theorem Euc.turn {m a x y u v : Int} (e : Euc m a x y u v) (h : 0 < y) : Euc m a y (x - x.fdiv y * y) v (u - x.fdiv y * v) ∧ x - x.fdiv y * y < y ∧ 0 ≤ x.fdiv y ∧ x.fdiv y ≤ 1000000000 := by
  have e1 : x - x.fdiv y * y = x.fmod y := by
    have := Int.mul_fdiv_add_fmod x y
    rw [Int.mul_comm] at this
    omega
  have b := fmod_b (a := x) (b := y) h
  have q0 : 0 ≤ x.fdiv y := fdiv_nn e.x0 h
  have q1 : x.fdiv y ≤ x := by
    rw [Int.fdiv_eq_ediv_of_nonneg _ (by omega)]
    exact Int.ediv_le_self y e.x0
  refine ⟨⟨e.y0, by omega, ⟨e.le.2, by have := e.le.2; omega⟩, e.cy, ?_, ?_⟩, by omega, q0, by have := e.le.1; omega⟩
  · have := e.cx.sub (e.cy.mulL (x.fdiv y))
    rw [Int.sub_mul, Int.mul_assoc]
    exact this
  · rw [e1, gcd_step e.x0 h]
    exact e.g
theorem Euc.out {m a x u v : Int} (e : Euc m a x 0 u v) (hm : 2 ≤ m) : 0 ≤ u.fmod m ∧ u.fmod m < m ∧ Cg m (u.fmod m * a) 1 := by
  have hx : x = 1 := by
    have := e.g
    rw [gcd_end e.x0] at this
    exact this
  have b := fmod_b (a := u) (b := m) (by omega)
  refine ⟨b.1, b.2, ?_⟩
  have h := e.cx
  rw [hx] at h
  rw [Int.fmod_eq_emod_of_nonneg _ (by omega)]
  exact ((Cg.mod m u).mulR a).trans h.symm
theorem gcd_comm' {a b : Int} : gcdI a b = gcdI b a := by
  unfold gcdI
  rw [Nat.gcd_comm]
/-! ### promises of the maps' defs -/
def sp_apply (K : PySem.W.Frag) : Sp := fun vs H Q _ => ∃ (m a b x : Int) (t : Addr), vs = [.int m, .ref t, .int x] ∧ SqT K H t [.int a, .int b] ∧ 1 ≤ m ∧ 0 ≤ a ∧ a ≤ 1000000000 ∧
  Q (.int ((a * x + b) % m)) H
def sp_compose (K : PySem.W.Frag) : Sp := fun vs H Q _ => ∃ (m a b c d : Int) (s t : Addr), vs = [.int m, .ref s, .ref t] ∧ SqT K H s [.int a, .int b] ∧ SqT K H t [.int c, .int d] ∧
  1 ≤ m ∧ 0 ≤ a ∧ a ≤ 1000000000 ∧ 0 ≤ c ∧ c ≤ 1000000000 ∧ ∀ H' p, Same H H' → H p = none → H' p = some (.tup [.int (a * c % m), .int ((c * b + d) % m)]) → Q (.ref p) H'
def sp_uinv : Sp := fun vs H Q _ => ∃ m a : Int, vs = [.int m, .int a] ∧ 2 ≤ m ∧ m ≤ 1000000000 ∧ Unit' m a ∧ ∀ H' r, Same H H' → 0 ≤ r → r < m → Cg m (r * a) 1 → Q (.int r) H'
def sp_luinv : Sp := fun vs H Q _ => ∃ m a : Int, vs = [.int a, .int m] ∧ 2 ≤ m ∧ m ≤ 1000000000 ∧ Unit' m a ∧ ∀ H' r, Same H H' → 0 ≤ r → r < m → Cg m (r * a) 1 → Q (.int r) H'
def sp_inverse (K : PySem.W.Frag) : Sp := fun vs H Q _ => ∃ (m a b : Int) (t : Addr), vs = [.int m, .ref t] ∧ SqT K H t [.int a, .int b] ∧ 2 ≤ m ∧ m ≤ 1000000000 ∧ Unit' m a ∧
  ∀ H' p r, Same H H' → H p = none → 0 ≤ r → r < m → Cg m (r * a) 1 → H' p = some (.tup [.int r, .int ((-r * b) % m)]) → Q (.ref p) H'
def mapXY (m : Int) : V → V → Bool
  | .int a, .int b => (decide (0 ≤ a) && decide (a ≤ m - 1)) && ((decide (0 ≤ b) && decide (b ≤ m - 1)) && decide (gcdI a m = 1))
  | _, _ => false
/-- whether a value is a map modulo m -/
inductive IsMp (K : PySem.W.Frag) (H : Hp) (m : Int) : V → Bool → Prop where
  | no {v : V} {t : Value} (h : TyX K H v t) (k : PySem.W.kitOne K t (.type "tuple") = some false) : IsMp K H m v false
  | len {a : Addr} {xs : List V} (h : H a = some (.tup xs)) (n : xs.length ≠ 2) : IsMp K H m (.ref a) false
  | two {a : Addr} {x y : V} (h : H a = some (.tup [x, y])) (kx : Kd K H x) (ky : Kd K H y) : IsMp K H m (.ref a) (mapXY m x y)
def sp_ismap (K : PySem.W.Frag) : Sp := fun vs H Q _ => ∃ (m : Int) (v : V) (b : Bool), vs = [.int m, v] ∧ 2 ≤ m ∧ m ≤ 1000000000 ∧ IsMp K H m v b ∧ ∀ H', Same H H' → Q (.bl b) H'
/-- a tuple of two ints and its repr -/
theorem rp_tup2 {K : PySem.W.Frag} {H : Hp} {t : Addr} {a b : Int} (h : SqT K H t [.int a, .int b]) (ha : a.natAbs < 1000000000000) (hb : b.natAbs < 1000000000000) :
    Rp K H (.ref t) (.tuple [.int a, .int b]) := by
  have hn : ∀ z ∈ [a, b], z.natAbs < 1000000000000 := by
    intro z hz
    simp only [List.mem_cons, List.mem_nil_iff, or_false] at hz
    rcases hz with rfl | rfl
    · exact ha
    · exact hb
  refine ⟨Dp.tup h (.cons (.int a) (.cons (.int b) .nil)), ?_, ?_, ?_⟩
  · simp only [PyData.showable]; exact show_ints [a, b] hn
  · simp only [PyData.depth]; rw [show PyData.depthAll [.int a, .int b] = 0 from depth_ints [a, b]]; decide
  · refine PyData.shown_fits_bulk (B := 13) (by decide) (by decide) ?_ ?_
    · simp only [PyData.leavesShort]; exact short_ints [a, b] hn
    · simp only [PyData.bulk]; rw [show PyData.bulkAll [.int a, .int b] = 2 from bulk_ints [a, b]]; decide
theorem rp_int {K : PySem.W.Frag} {H : Hp} {a : Int} (ha : a.natAbs < 1000000000000) : Rp K H (.int a) (.int a) := by
  have h2 : a.natAbs < 2 ^ 64 := Nat.lt_of_lt_of_le ha (by decide)
  have h3 : a.natAbs.log2 < 1920 := Nat.lt_of_lt_of_le (PySem.Flt.log2_lt_of (by decide) h2) (by decide)
  refine ⟨Dp.int a, ?_, by simp [PyData.depth], ?_⟩
  · simp only [PyData.showable]; exact decide_eq_true h3
  · have := PyData.shown_fits_bulk (B := 13) (d := .int a) (by decide) (by decide) (int_short ha) (by simp [PyData.bulk])
    exact this
/-- two that are equal are not told apart -/
theorem ne_int {x y : Int} (h : x = y) : V.bl (!decide (V.int x = V.int y)) = V.bl false := by
  rw [h, decide_eq_true rfl]; rfl
theorem ne_str {x y : Str} (h : x = y) : V.bl (!decide (V.str x = V.str y)) = V.bl false := by
  rw [h, decide_eq_true rfl]; rfl
end Vg

set_option Elab.async false
set_option linter.all false
set_option maxRecDepth 100000
set_option maxHeartbeats 2000000
namespace Vg
open PySem PySem.Spec PyProof.Rows L2
/-! ### the group of the maps modulo m -/
abbrev Mp := Int × Int
def cmp (m : Int) (f g : Mp) : Mp := (f.1 * g.1 % m, (g.1 * f.2 + g.2) % m)
def one1 : Mp := (1, 0)
/-- a map modulo m -/
structure Ok (m : Int) (f : Mp) : Prop where
  u : Unit' m f.1
  b0 : 0 ≤ f.2
  b1 : f.2 < m
theorem unit_inv_ex {m a : Int} (hm : 2 ≤ m) (h : Unit' m a) : ∃ r, 0 ≤ r ∧ r < m ∧ Cg m (r * a) 1 := by
  -- by Euclid's way
  have key : ∀ (k : Nat) (x y u v : Int), y.toNat ≤ k → Cg m x (u * a) → Cg m y (v * a) → 0 ≤ x → 0 ≤ y → gcdI x y = 1 → ∃ r, 0 ≤ r ∧ r < m ∧ Cg m (r * a) 1 := by
    intro k
    induction k with
    | zero =>
      intro x y u v hk cx cy x0 y0 g
      have hy : y = 0 := by omega
      subst hy
      rw [gcd_end x0] at g
      subst g
      exact ⟨u % m, Int.emod_nonneg _ (by omega), Int.emod_lt_of_pos _ (by omega), ((Cg.mod m u).mulR a).trans cx.symm⟩
    | succ k ih =>
      intro x y u v hk cx cy x0 y0 g
      by_cases c : y = 0
      · subst c
        rw [gcd_end x0] at g
        subst g
        exact ⟨u % m, Int.emod_nonneg _ (by omega), Int.emod_lt_of_pos _ (by omega), ((Cg.mod m u).mulR a).trans cx.symm⟩
      · have hy : 0 < y := by omega
        have b := fmod_b (a := x) (b := y) hy
        have e1 : x - x.fdiv y * y = x.fmod y := by
          have := Int.mul_fdiv_add_fmod x y
          rw [Int.mul_comm] at this
          omega
        refine ih y (x.fmod y) v (u - x.fdiv y * v) (by omega) cy ?_ y0 b.1 (by rw [gcd_step x0 hy]; exact g)
        have := cx.sub (cy.mulL (x.fdiv y))
        rw [Int.sub_mul, Int.mul_assoc, ← e1]
        exact this
  exact key _ a m 1 0 (Nat.le_refl _) (Cg.of (by omega)) ⟨1, by omega⟩ h.1 (by omega) h.2.2
theorem unit_of {m a r : Int} (hm : 2 ≤ m) (h : Cg m (a * r) 1) (a0 : 0 ≤ a) (a1 : a < m) : Unit' m a := inv_unit hm h a0 a1
theorem unit_mul {m a b : Int} (hm : 2 ≤ m) (ha : Unit' m a) (hb : Unit' m b) : Unit' m (a * b % m) := by
  obtain ⟨r, _, _, hr⟩ := unit_inv_ex hm ha
  obtain ⟨s, _, _, hs⟩ := unit_inv_ex hm hb
  refine unit_of (r := s * r) hm ?_ (Int.emod_nonneg _ (by omega)) (Int.emod_lt_of_pos _ (by omega))
  have h1 : Cg m (a * b % m * (s * r)) (a * b * (s * r)) := (Cg.mod m _).mulR _
  have h2 : a * b * (s * r) = (s * b) * (r * a) := by
    simp only [Int.mul_assoc, Int.mul_comm, Int.mul_left_comm]
  have h3 : Cg m ((s * b) * (r * a)) (1 * 1) := hs.mul hr
  exact h1.trans ((Cg.of h2).trans h3)
theorem Ok.one {m : Int} (hm : 2 ≤ m) : Ok m one1 := ⟨⟨by decide, by show (1 : Int) < m; omega, gcd_one (by omega)⟩, Int.le_refl _, by show (0 : Int) < m; omega⟩
theorem Ok.cmp {m : Int} {f g : Mp} (hm : 2 ≤ m) (hf : Ok m f) (hg : Ok m g) : Ok m (cmp m f g) :=
  ⟨unit_mul hm hf.u hg.u, Int.emod_nonneg _ (by omega), Int.emod_lt_of_pos _ (by omega)⟩
theorem mp_eq {m : Int} {f g : Mp} (hf : Ok m f) (hg : Ok m g) (h1 : Cg m f.1 g.1) (h2 : Cg m f.2 g.2) : f = g := by
  have e1 := h1.eqS hf.u.1 hf.u.2.1 hg.u.1 hg.u.2.1
  have e2 := h2.eqS hf.b0 hf.b1 hg.b0 hg.b1
  cases f; cases g
  simp only at e1 e2
  rw [e1, e2]
theorem cmp_assoc {m : Int} {f g h : Mp} (hm : 2 ≤ m) (hf : Ok m f) (hg : Ok m g) (hh : Ok m h) : cmp m (cmp m f g) h = cmp m f (cmp m g h) := by
  refine mp_eq ((hf.cmp hm hg).cmp hm hh) (hf.cmp hm (hg.cmp hm hh)) ?_ ?_
  · have h1 : Cg m (f.1 * g.1 % m * h.1 % m) (f.1 * g.1 * h.1) := (Cg.mod m _).trans ((Cg.mod m _).mulR _)
    have h2 : Cg m (f.1 * (g.1 * h.1 % m) % m) (f.1 * (g.1 * h.1)) := (Cg.mod m _).trans ((Cg.mod m _).mulL _)
    exact h1.trans ((Cg.of (Int.mul_assoc _ _ _)).trans h2.symm)
  · have h1 : Cg m ((h.1 * ((g.1 * f.2 + g.2) % m) + h.2) % m) (h.1 * (g.1 * f.2 + g.2) + h.2) := (Cg.mod m _).trans (((Cg.mod m _).mulL _).add (Cg.refl m _))
    have h2 : Cg m ((g.1 * h.1 % m * f.2 + (h.1 * g.2 + h.2) % m) % m) (g.1 * h.1 * f.2 + (h.1 * g.2 + h.2)) :=
      (Cg.mod m _).trans (((Cg.mod m _).mulR _).add (Cg.mod m _))
    refine h1.trans ((Cg.of ?_).trans h2.symm)
    rw [Int.mul_add, ← Int.mul_assoc, Int.mul_comm h.1 g.1]
    omega
theorem cmp_one {m : Int} {f : Mp} (hm : 2 ≤ m) (hf : Ok m f) : cmp m f one1 = f := by
  refine mp_eq (hf.cmp hm (Ok.one hm)) hf ?_ ?_
  · exact (Cg.mod m _).trans (Cg.of (by show f.1 * 1 = f.1; omega))
  · exact (Cg.mod m _).trans (Cg.of (by show 1 * f.2 + 0 = f.2; omega))
theorem one_cmp {m : Int} {f : Mp} (hm : 2 ≤ m) (hf : Ok m f) : cmp m one1 f = f := by
  refine mp_eq ((Ok.one hm).cmp hm hf) hf ?_ ?_
  · exact (Cg.mod m _).trans (Cg.of (by show 1 * f.1 = f.1; omega))
  · exact (Cg.mod m _).trans (Cg.of (by show f.1 * 0 + f.2 = f.2; omega))
/-- g takes f back -/
def IsInv (m : Int) (f g : Mp) : Prop := Ok m g ∧ cmp m f g = one1 ∧ cmp m g f = one1
theorem inv_is {m r : Int} {f : Mp} (hm : 2 ≤ m) (hf : Ok m f) (r0 : 0 ≤ r) (r1 : r < m) (h : Cg m (r * f.1) 1) : IsInv m f (r, -r * f.2 % m) := by
  have ok : Ok m (r, -r * f.2 % m) := ⟨inv_unit hm h r0 r1, Int.emod_nonneg _ (by omega), Int.emod_lt_of_pos _ (by omega)⟩
  refine ⟨ok, ?_, ?_⟩
  · refine mp_eq (hf.cmp hm ok) (Ok.one hm) ?_ ?_
    · exact (Cg.mod m _).trans ((Cg.of (Int.mul_comm _ _)).trans h)
    · refine (Cg.mod m _).trans (((Cg.refl m _).add (Cg.mod m _)).trans (Cg.of ?_))
      show r * f.2 + -r * f.2 = 0
      rw [Int.neg_mul]; omega
  · refine mp_eq (ok.cmp hm hf) (Ok.one hm) ?_ ?_
    · exact (Cg.mod m _).trans h
    · have h1 : Cg m (f.1 * (-r * f.2 % m) + f.2) (f.1 * (-r * f.2) + f.2) := ((Cg.mod m _).mulL _).add (Cg.refl m _)
      have h2 : f.1 * (-r * f.2) + f.2 = (1 - r * f.1) * f.2 := by
        rw [Int.sub_mul, Int.one_mul, Int.neg_mul, Int.mul_neg, Int.mul_left_comm, ← Int.mul_assoc]
        omega
      have h3 : Cg m ((1 - r * f.1) * f.2) (0 * f.2) := by
        have : Cg m (1 - r * f.1) 0 := ((Cg.refl m 1).sub h).trans (Cg.of (by omega))
        exact this.mulR _
      refine (Cg.mod m _).trans (h1.trans ((Cg.of h2).trans (h3.trans (Cg.of ?_))))
      show 0 * f.2 = 0
      rw [Int.zero_mul]
theorem inv_alone {m : Int} {f g h : Mp} (hm : 2 ≤ m) (hf : Ok m f) (a : IsInv m f g) (b : IsInv m f h) : g = h := by
  have e := cmp_assoc hm a.1 hf b.1
  rw [a.2.2, b.2.1, one_cmp hm b.1, cmp_one hm a.1] at e
  exact e.symm
theorem IsInv.symm {m : Int} {f g : Mp} (hf : Ok m f) (a : IsInv m f g) : IsInv m g f := ⟨hf, a.2.2, a.2.1⟩
theorem inv_ex {m : Int} {f : Mp} (hm : 2 ≤ m) (hf : Ok m f) : ∃ g, IsInv m f g := by
  obtain ⟨r, r0, r1, h⟩ := unit_inv_ex hm hf.u
  exact ⟨_, inv_is hm hf r0 r1 h⟩
/-- whole powers -/
def npw (m : Int) (f : Mp) : Nat → Mp
  | 0 => one1
  | n + 1 => cmp m (npw m f n) f
section
variable {m : Int} {f g : Mp}
theorem npw_ok (hm : 2 ≤ m) (hf : Ok m f) : ∀ n, Ok m (npw m f n)
  | 0 => Ok.one hm
  | n + 1 => (npw_ok hm hf n).cmp hm hf
theorem npw_add (hm : 2 ≤ m) (hf : Ok m f) (a : Nat) : ∀ b, cmp m (npw m f a) (npw m f b) = npw m f (a + b)
  | 0 => cmp_one hm (npw_ok hm hf a)
  | b + 1 => by
    show cmp m (npw m f a) (cmp m (npw m f b) f) = cmp m (npw m f (a + b)) f
    rw [← cmp_assoc hm (npw_ok hm hf a) (npw_ok hm hf b) hf, npw_add hm hf a b]
theorem npw_one (hm : 2 ≤ m) (hf : Ok m f) : npw m f 1 = f := one_cmp hm hf
theorem npw_mul (hm : 2 ≤ m) (hf : Ok m f) (a : Nat) : ∀ b, npw m (npw m f a) b = npw m f (a * b)
  | 0 => rfl
  | b + 1 => by
    show cmp m (npw m (npw m f a) b) (npw m f a) = npw m f (a * b + a)
    rw [npw_mul hm hf a b, npw_add hm hf]
theorem npw_inv (hm : 2 ≤ m) (hf : Ok m f) (h : IsInv m f g) : ∀ n, IsInv m (npw m f n) (npw m g n)
  | 0 => ⟨Ok.one hm, one_cmp hm (Ok.one hm), one_cmp hm (Ok.one hm)⟩
  | n + 1 => by
    have ih := npw_inv hm hf h n
    have ef : npw m f (n + 1) = cmp m f (npw m f n) := by
      have := npw_add hm hf 1 n
      rw [npw_one hm hf, Nat.add_comm] at this
      exact this.symm
    have eg : npw m g (n + 1) = cmp m g (npw m g n) := by
      have := npw_add hm h.1 1 n
      rw [npw_one hm h.1, Nat.add_comm] at this
      exact this.symm
    have o1 := npw_ok hm hf n
    have o2 := npw_ok hm h.1 n
    refine ⟨npw_ok hm h.1 (n + 1), ?_, ?_⟩
    · rw [eg]
      show cmp m (cmp m (npw m f n) f) (cmp m g (npw m g n)) = one1
      rw [cmp_assoc hm o1 hf (h.1.cmp hm o2), ← cmp_assoc hm hf h.1 o2, h.2.1, one_cmp hm o2, ih.2.1]
    · rw [ef]
      show cmp m (cmp m (npw m g n) g) (cmp m f (npw m f n)) = one1
      rw [cmp_assoc hm o2 h.1 (hf.cmp hm o1), ← cmp_assoc hm h.1 hf o1, h.2.2, one_cmp hm o1, ih.2.2]
/-- the power with exponent e: p is it -/
def IsPw (m : Int) (f : Mp) (e : Int) (p : Mp) : Prop :=
  (0 ≤ e → p = npw m f e.toNat) ∧ (e < 0 → ∀ g, IsInv m f g → p = npw m g (-e).toNat)
theorem pw_ok (hm : 2 ≤ m) (hf : Ok m f) {e : Int} {p : Mp} (h : IsPw m f e p) : Ok m p := by
  by_cases c : 0 ≤ e
  · rw [h.1 c]; exact npw_ok hm hf _
  · obtain ⟨g, hg⟩ := inv_ex hm hf
    rw [h.2 (by omega) g hg]; exact npw_ok hm hg.1 _
theorem pw_alone (hm : 2 ≤ m) (hf : Ok m f) {e : Int} {p q : Mp} (h : IsPw m f e p) (k : IsPw m f e q) : p = q := by
  by_cases c : 0 ≤ e
  · rw [h.1 c, k.1 c]
  · obtain ⟨g, hg⟩ := inv_ex hm hf
    rw [h.2 (by omega) g hg, k.2 (by omega) g hg]
/-- any exponent is a difference of whole ones -/
theorem pw_diff (hm : 2 ≤ m) (hf : Ok m f) (h : IsInv m f g) {a b : Nat} {e : Int} {p : Mp} (he : e = (a : Int) - (b : Int)) : IsPw m f e p ↔ p = cmp m (npw m f a) (npw m g b) := by
  have key : ∀ q, IsPw m f e q → q = cmp m (npw m f a) (npw m g b) := by
    intro q hq
    rcases Nat.le_total b a with c | c
    · rw [hq.1 (by omega)]
      have e1 : a = e.toNat + b := by omega
      rw [e1, ← npw_add hm hf e.toNat b, cmp_assoc hm (npw_ok hm hf _) (npw_ok hm hf _) (npw_ok hm h.1 _), (npw_inv hm hf h b).2.1, cmp_one hm (npw_ok hm hf _)]
    · by_cases c2 : a = b
      · subst c2
        rw [hq.1 (by omega), (npw_inv hm hf h a).2.1]
        have : e.toNat = 0 := by omega
        rw [this]; rfl
      · rw [hq.2 (by omega) g h]
        have e1 : b = a + (-e).toNat := by omega
        rw [e1, ← npw_add hm h.1 a (-e).toNat, ← cmp_assoc hm (npw_ok hm hf _) (npw_ok hm h.1 _) (npw_ok hm h.1 _), (npw_inv hm hf h a).2.1, one_cmp hm (npw_ok hm h.1 _)]
  refine ⟨key p, fun hp => ?_⟩
  by_cases c : 0 ≤ e
  · have h1 : IsPw m f e (npw m f e.toNat) := ⟨fun _ => rfl, fun z => by omega⟩
    rw [hp, ← key _ h1]; exact h1
  · have h1 : IsPw m f e (npw m g (-e).toNat) := ⟨fun z => by omega, fun _ g' hg' => by rw [inv_alone hm hf h hg']⟩
    rw [hp, ← key _ h1]; exact h1
/-- powers of one map commute -/
theorem npw_comm (hm : 2 ≤ m) (hf : Ok m f) (h : IsInv m f g) (a b : Nat) : cmp m (npw m g a) (npw m f b) = cmp m (npw m f b) (npw m g a) := by
  rcases Nat.le_total a b with c | c
  · have e : b = a + (b - a) := by omega
    have e2 : b = (b - a) + a := by omega
    have h1 : cmp m (npw m g a) (npw m f b) = npw m f (b - a) := by
      rw [e, ← npw_add hm hf a (b - a), ← cmp_assoc hm (npw_ok hm h.1 _) (npw_ok hm hf _) (npw_ok hm hf _), (npw_inv hm hf h a).2.2, one_cmp hm (npw_ok hm hf _)]
      congr 1; omega
    have h2 : cmp m (npw m f b) (npw m g a) = npw m f (b - a) := by
      rw [e2, ← npw_add hm hf (b - a) a, cmp_assoc hm (npw_ok hm hf _) (npw_ok hm hf _) (npw_ok hm h.1 _), (npw_inv hm hf h a).2.1, cmp_one hm (npw_ok hm hf _)]
      congr 1; omega
    rw [h1, h2]
  · have e : a = (a - b) + b := by omega
    have e2 : a = b + (a - b) := by omega
    have h1 : cmp m (npw m g a) (npw m f b) = npw m g (a - b) := by
      rw [e, ← npw_add hm h.1 (a - b) b, cmp_assoc hm (npw_ok hm h.1 _) (npw_ok hm h.1 _) (npw_ok hm hf _), (npw_inv hm hf h b).2.2, cmp_one hm (npw_ok hm h.1 _)]
      congr 1; omega
    have h2 : cmp m (npw m f b) (npw m g a) = npw m g (a - b) := by
      rw [e2, ← npw_add hm h.1 b (a - b), ← cmp_assoc hm (npw_ok hm hf _) (npw_ok hm h.1 _) (npw_ok hm h.1 _), (npw_inv hm hf h b).2.1, one_cmp hm (npw_ok hm h.1 _)]
      congr 1; omega
    rw [h1, h2]
/-- exponents add -/
theorem pw_add (hm : 2 ≤ m) (hf : Ok m f) {d e : Int} {p q : Mp} (hp : IsPw m f d p) (hq : IsPw m f e q) : IsPw m f (d + e) (cmp m p q) := by
  obtain ⟨g, h⟩ := inv_ex hm hf
  have e1 := (pw_diff hm hf h (a := d.toNat) (b := (-d).toNat) (by omega)).mp hp
  have e2 := (pw_diff hm hf h (a := e.toNat) (b := (-e).toNat) (by omega)).mp hq
  refine (pw_diff hm hf h (a := d.toNat + e.toNat) (b := (-d).toNat + (-e).toNat) (by omega)).mpr ?_
  have o1 := npw_ok hm hf d.toNat
  have o2 := npw_ok hm h.1 (-d).toNat
  have o3 := npw_ok hm hf e.toNat
  have o4 := npw_ok hm h.1 (-e).toNat
  rw [e1, e2, cmp_assoc hm o1 o2 (o3.cmp hm o4), ← cmp_assoc hm o2 o3 o4, npw_comm hm hf h, cmp_assoc hm o3 o2 o4, ← cmp_assoc hm o1 o3 (o2.cmp hm o4),
    npw_add hm hf, npw_add hm h.1]
/-- a power's inverse -/
theorem pw_neg (hm : 2 ≤ m) (hf : Ok m f) {e : Int} {p q : Mp} (hp : IsPw m f e p) (hq : IsPw m f (-e) q) : IsInv m p q := by
  have o1 := pw_ok hm hf hp
  have o2 := pw_ok hm hf hq
  have z : ∀ x, IsPw m f 0 x → x = one1 := fun x hx => hx.1 (by decide)
  refine ⟨o2, z _ ?_, z _ ?_⟩
  · have := pw_add hm hf hp hq
    rw [show e + -e = 0 by omega] at this
    exact this
  · have := pw_add hm hf hq hp
    rw [show -e + e = 0 by omega] at this
    exact this
theorem pw_ex (hm : 2 ≤ m) (hf : Ok m f) (e : Int) : ∃ p, IsPw m f e p := by
  obtain ⟨g, h⟩ := inv_ex hm hf
  exact ⟨_, (pw_diff hm hf h (a := e.toNat) (b := (-e).toNat) (by omega)).mpr rfl⟩
/-- whole powers of a power -/
theorem pw_npw (hm : 2 ≤ m) (hf : Ok m f) {e : Int} {p : Mp} (hp : IsPw m f e p) : ∀ n : Nat, IsPw m f (e * n) (npw m p n)
  | 0 => by
    rw [show e * ((0 : Nat) : Int) = 0 by simp]
    exact ⟨fun _ => rfl, fun z => by omega⟩
  | n + 1 => by
    have := pw_add hm hf (pw_npw hm hf hp n) hp
    have e1 : e * ((n + 1 : Nat) : Int) = e * n + e := by
      rw [Int.natCast_add, Int.mul_add]; simp
    rw [e1]
    exact this
/-- exponents multiply -/
theorem pw_mul (hm : 2 ≤ m) (hf : Ok m f) {d e : Int} {p q : Mp} (hp : IsPw m f d p) (hq : IsPw m p e q) : IsPw m f (d * e) q := by
  have op := pw_ok hm hf hp
  by_cases c : 0 ≤ e
  · rw [hq.1 c]
    have := pw_npw hm hf hp e.toNat
    rw [show ((e.toNat : Nat) : Int) = e by omega] at this
    exact this
  · obtain ⟨r, hr⟩ := pw_ex hm hf (-d)
    rw [hq.2 (by omega) r (pw_neg hm hf hp hr)]
    have := pw_npw hm hf hr (-e).toNat
    rw [show (((-e).toNat : Nat) : Int) = -e by omega, Int.neg_mul_neg] at this
    exact this
/-- the image of x -/
def img (m : Int) (f : Mp) (x : Int) : Int := (f.1 * x + f.2) % m
theorem img_cmp {x : Int} : img m (cmp m f g) x = img m g (img m f x) := comp_img
end
/-! ### promises about powers -/
def TpAt (K : PySem.W.Frag) (H : Hp) (t : Addr) (f : Mp) : Prop := SqT K H t [.int f.1, .int f.2]
theorem TpAt.same {K : PySem.W.Frag} {H H' : Hp} {t : Addr} {f : Mp} (h : TpAt K H t f) (s : Same H H') : TpAt K H' t f := sm_tup s h
def sp_power (K : PySem.W.Frag) : Sp := fun vs H Q _ => ∃ (m : Int) (f : Mp) (e : Int) (t : Addr), vs = [.int m, .ref t, .int e] ∧ TpAt K H t f ∧ 2 ≤ m ∧ m ≤ 1000000000 ∧ Ok m f ∧
  ∀ H' p q, Same H H' → IsPw m f e p → TpAt K H' q p → Q (.ref q) H'
def sp_power0 (K : PySem.W.Frag) : Sp := fun vs H Q _ => ∃ (m : Int) (f : Mp) (e : Int) (t : Addr), vs = [.int m, .ref t, .int e] ∧ TpAt K H t f ∧ 2 ≤ m ∧ m ≤ 1000000000 ∧ Ok m f ∧ 0 ≤ e ∧
  ∀ H' q, Same H H' → TpAt K H' q (npw m f e.toNat) → Q (.ref q) H'
def sp_repeated (K : PySem.W.Frag) : Sp := fun vs H Q _ => ∃ (m : Int) (f : Mp) (e : Int) (t : Addr), vs = [.int m, .ref t, .int e] ∧ TpAt K H t f ∧ 2 ≤ m ∧ m ≤ 1000000000 ∧ Ok m f ∧ -1000000 ≤ e ∧ e ≤ 1000000 ∧
  ∀ H' p q, Same H H' → IsPw m f e p → TpAt K H' q p → Q (.ref q) H'
def sp_iterate (K : PySem.W.Frag) : Sp := fun vs H Q _ => ∃ (m : Int) (f : Mp) (x e : Int) (t : Addr), vs = [.int m, .ref t, .int x, .int e] ∧ TpAt K H t f ∧ 2 ≤ m ∧ m ≤ 1000000000 ∧ Ok m f ∧
  ∀ H' p, Same H H' → IsPw m f e p → Q (.int (img m p x)) H'
def sp_exponent : Sp := fun vs H Q _ => ∃ (p L : Addr) (n : Nat), vs = [.ref p] ∧ PenAt H p L n ∧ n ≤ 90000000 ∧ ∀ H' e, But p H H' → PenAt H' p L (n + 4) → Q (.int e) H'
section
variable {m : Int} {f g r s : Mp}
theorem sq_npw (hm : 2 ≤ m) (hs : Ok m s) : cmp m s s = npw m s 2 := by
  show cmp m s s = cmp m (npw m s 1) s
  rw [npw_one hm hs]
/-- a turn of squaring -/
theorem sq_turn (hm : 2 ≤ m) (hr : Ok m r) (hs : Ok m s) (l : Nat) : cmp m (if l % 2 = 1 then cmp m r s else r) (npw m (cmp m s s) (l / 2)) = cmp m r (npw m s l) := by
  rw [sq_npw hm hs, npw_mul hm hs]
  by_cases c : l % 2 = 1
  · rw [if_pos c, cmp_assoc hm hr hs (npw_ok hm hs _)]
    have h1 := npw_add hm hs 1 (2 * (l / 2))
    rw [npw_one hm hs] at h1
    rw [h1]
    congr 2; omega
  · rw [if_neg c]
    congr 2; omega
theorem and_one {x : Int} (h : 0 ≤ x) : Builtin.bitAnd x 1 = x % 2 := by
  have := Bits.bitAnd_mask (x := x) 1 h
  simpa using this
theorem rp_mp {K : PySem.W.Frag} {H : Hp} {t : Addr} {m : Int} {f : Mp} (h : TpAt K H t f) (hm : m ≤ 1000000000) (o : Ok m f) : Rp K H (.ref t) (.tuple [.int f.1, .int f.2]) := by
  have h1 := o.u.1
  have h2 := o.u.2.1
  have h3 := o.b0
  have h4 := o.b1
  exact rp_tup2 h (by omega) (by omega)
/-- two tuples of ints compared -/
theorem sh_mp {a b : Int} : SeqAt.shaped (.tuple [.int a, .int b]) = true := by
  unfold SeqAt.shaped
  rw [show PyData.canLay0 (.tuple [.int a, .int b]) = true by simp only [PyData.canLay0]; exact lay_ints [a, b],
    show PyData.depth (.tuple [.int a, .int b]) = 1 by simp only [PyData.depth]; rw [show PyData.depthAll [.int a, .int b] = 0 from depth_ints [a, b]]]
  rfl
theorem eqv_mp {a b : Int} : PyData.eqv (.tuple [.int a, .int b]) (.tuple [.int a, .int b]) = true := by
  simp [PyData.eqv, PyData.eqvAll]
theorem dp_mp {K : PySem.W.Frag} {H : Hp} {t : Addr} {f : Mp} (h : TpAt K H t f) : Dp K H (.ref t) (.tuple [.int f.1, .int f.2]) := Dp.tup h (.cons (.int _) (.cons (.int _) .nil))
theorem ne_mp {a b : Int} : V.bl (!PyData.eqv (.tuple [.int a, .int b]) (.tuple [.int a, .int b])) = V.bl false := by rw [eqv_mp]; rfl
end
section
variable {m : Int} {f g i j : Mp}
theorem inv_cmp (hm : 2 ≤ m) (hf : Ok m f) (hg : Ok m g) (hi : IsInv m f i) (hj : IsInv m g j) : IsInv m (cmp m f g) (cmp m j i) := by
  refine ⟨hj.1.cmp hm hi.1, ?_, ?_⟩
  · rw [cmp_assoc hm hf hg (hj.1.cmp hm hi.1), ← cmp_assoc hm hg hj.1 hi.1, hj.2.1, one_cmp hm hi.1, hi.2.1]
  · rw [cmp_assoc hm hj.1 hi.1 (hf.cmp hm hg), ← cmp_assoc hm hi.1 hf hg, hi.2.2, one_cmp hm hg, hj.2.2]
theorem pw_one' (hm : 2 ≤ m) (hf : Ok m f) : IsPw m f 1 f := ⟨fun _ => (npw_one hm hf).symm, fun z => by omega⟩
theorem img_swap {e x : Int} {p : Mp} (hm : 2 ≤ m) (hf : Ok m f) (hp : IsPw m f e p) : img m p (img m f x) = img m f (img m p x) := by
  rw [← img_cmp, ← img_cmp]
  have h1 := pw_add hm hf (pw_one' hm hf) hp
  have h2 := pw_add hm hf hp (pw_one' hm hf)
  rw [Int.add_comm] at h2
  rw [pw_alone hm hf h1 h2]
theorem ne_mpE {a b c d : Int} (h : ((a, b) : Mp) = (c, d)) : V.bl (!PyData.eqv (.tuple [.int a, .int b]) (.tuple [.int c, .int d])) = V.bl false := by
  cases h
  rw [eqv_mp]; rfl
end
end Vg

set_option Elab.async false
set_option linter.all false
set_option maxRecDepth 100000
set_option maxHeartbeats 2000000
namespace Vg
open PySem PySem.Spec PyProof.Rows L2
section
variable {prog : Program} {w : World} {A : Around} {E : Value → Shared → Prop} {s : Shared}
/-- a pair from behind -/
theorem applied_rev2 {sl : Addr} {vl vu vs : Value} {Q : Int × Int × Nat → Shared → Prop} (hs : s.heap.IsSliceOf sl vl vu vs)
    (pl : IsPart vl none) (pu : IsPart vu none) (ps : IsPart vs (some (-1))) (h : Q (1, -1, 2) s) :
    wpAny (model prog w) A (Builtin.Slice.sliceApplied (.ref sl) (pure (2 : Int))) Q E s := by
  obtain ⟨os, hos, hcs, hds⟩ := id hs
  unfold Builtin.Slice.sliceApplied Builtin.Slice.sliceFields
  refine wpAny_bind (wpAny_bind (wpAny_field hos hds (x := vl) rfl (wpAny_bind (wpAny_field hos hds (x := vu) rfl
    (wpAny_bind (wpAny_field hos hds (x := vs) rfl (wpAny_pure ?_)))))))
  refine wpAny_bind (HT.slicePart_ ps ?_)
  show wpAny _ _ (if ((-1 : Int) == 0) = true then _ else _) _ _ s
  rw [if_neg (by decide)]
  refine wpAny_bind (HT.slicePart_ pl (wpAny_bind (HT.slicePart_ pu (wpAny_bind (wpAny_pure ?_)))))
  exact wpAny_pure h
theorem getItem_rev2 {t sl : Addr} {x y : Value} {vl vu vs : Value} {Q : Value → Shared → Prop} (ht : IsTup s.heap t #[x, y])
    (hs : s.heap.IsSliceOf sl vl vu vs) (pl : IsPart vl none) (pu : IsPart vu none) (ps : IsPart vs (some (-1)))
    (h : Q (.ref s.heap.objs.size) { s with heap := s.heap.push { cls := .type "tuple", data := .seq #[y, x] } }) :
    wpAny (model prog w) A (getItem (.ref t) (.ref sl)) Q E s := by
  have hsz : sizeOk (.seq #[y, x]) := by
    show 2 ≤ sizeLine
    decide
  obtain ⟨os, hos, hcs, hds⟩ := id hs
  have hTs : s.TypeIs (.ref sl) "slice" := ⟨os, hos, hcs⟩
  unfold getItem
  try with_reducible refine wpAny_holding ?_
  first
    | refine wpAny_bind (wpAny_pure ?_)
    | skip
  refine wpAny_bind (wpAny_sequenceKey ht.typeIs (by decide) ?_)
  refine wpAny_bind (wpAny_callSpecial?_slot (name := Str.ofString "__getitem__") ht.typeIs
    PyProof.Rows.slot_tuple_getitem (wpAny_call_entry PyProof.Rows.slot_tuple_getitem ht.typeIs
      entry_tuple_getitem ?_ (args_tuple_getitem _ _)))
  show wpAny _ _ (Builtin.Tuple.tupleItemsOf (.ref t) >>= _) _ _ s
  refine wpAny_bind (tupleItemsOf_ ht ?_)
  refine wpAny_bind (wpAny_typeOf hTs ?_)
  rw [if_pos (by decide)]
  refine wpAny_bind (applied_rev2 hs pl pu ps ?_)
  show wpAny _ _ (if ((1 : Int) == 0 && (-1 : Int) == 1 && (2 : Nat) == 2) = true then _ else _) _ _ s
  rw [if_neg (by decide)]
  first
    | exact wpAny_bind (m := Builtin.Tuple.tupleExact _) (wpAny_newObj_type (wpAny_pure ⟨_, rfl, wpAny_pure h⟩) hsz)
    | exact wpAny_bind (m := Builtin.Tuple.tupleExact _) (wpAny_newObj_type (wpAny_bind (wpAny_pure (wpAny_pure ⟨_, rfl, wpAny_pure h⟩))) hsz)
end
/-- t[::-1] of a pair -/
def tRev2 (K : PySem.W.Frag) (te : TE) : TE := fun σ H Q => te σ H fun v H1 => ∃ a x y, v = .ref a ∧ SqT K H1 a [x, y] ∧ ∀ p, H1 p = none → Q (.ref p) (upd H1 p (.tup [y, x]))
theorem pe_rev2 {X : Cx} {e : Expr} {te : TE} {k : Nat} {p1 p2 p3 pos : Pos} (he : PE X e te) :
    PE X (.Subscript e (.Slice none none (some (.UnaryOp .USub (.Constant (.int 1) k p1) p2)) p3) pos) (tRev2 X.K te) := by
  constructor
  intro pins s σ H Q I h
  refine Subscript_ (thn (he.run pins s σ H _ I h) ?_)
  intro v s1 hh
  obtain ⟨v0, H1, I1, r1, a, x, y, ex, hx, q⟩ := hh
  subst ex
  cases r1
  have hst : PO X (some (.UnaryOp .USub (.Constant (.int 1) k p1) p2)) (tPart (tUn (rU fun i => .int (-i)) (tC (.int 1)))) :=
    po_some (pe_un un_neg pe_int)
  refine wpAny_Slice (thn (po_none.run pins s1 σ H1 (fun o H2 => o = none ∧ H2 = H1) I1 ⟨rfl, rfl⟩) ?_)
  intro vl s2 h2
  obtain ⟨l, H2, I2, pl, el, e2⟩ := h2
  subst el e2
  refine thn (po_none.run pins s2 σ H2 (fun o H3 => o = none ∧ H3 = H2) I2 ⟨rfl, rfl⟩) ?_
  intro vu s3 h3
  obtain ⟨u, H3, I3, pu, eu, e3⟩ := h3
  subst eu e3
  refine thn (hst.run pins s3 σ H3 (fun o H4 => o = some (-1) ∧ H4 = H3) I3 ⟨1, rfl, -1, rfl, rfl, rfl⟩) ?_
  intro vs s4 h4
  obtain ⟨o, H4, I4, ps, eo, e4⟩ := h4
  subst eo e4
  have I5 : Inv X pins σ H4 { s4 with heap := s4.heap.push { cls := .type "slice", data := .fields #[vl, vu, vs] } } :=
    I4.kept (t' := s4.toks) fun b ob q => Heap.get?_push_of_some _ q
  obtain ⟨its, r, ht, hz⟩ := I5.tuple hx
  obtain ⟨u1, u2, rfl, r1, r2⟩ := vals2 r
  refine tail_any (ops := [.ref a, .ref s4.heap.objs.size]) ht.typeIs (PyProof.Rows.slot_tuple_getitem.lookup) ?_ (by with_unfolding_all rfl)
  refine getItem_rev2 ht (Heap.IsSliceOf.new _ vl vu vs) pl pu ps ?_
  refine ⟨.ref _, _, I5.laid (t' := s4.toks) (o := .tup [y, x]) (fun b ob q => Heap.get?_push_of_some _ q) (Nat.le_refl _) ?_, rfl,
    q _ (I5.hok.fresh (Nat.le_refl _))⟩
  exact ⟨by show 2 ≤ sizeLine; decide, [u2, u1], .cons r2 (.cons r1 .nil), IsTup.new _ _⟩
/-! ### what is known of values stays known -/
section
variable {K : PySem.W.Frag} {H H' : Hp}
theorem tyof_same (s : Same H H') {v : V} {t : Value} (h : TyOf K H v t) : TyOf K H' v t := by
  cases h with
  | non => exact .non
  | bl x => exact .bl x
  | int i => exact .int i
  | str x => exact .str x
  | flt x => exact .flt x
  | lst e => exact .lst (s _ _ e)
  | frz e => exact .frz (s _ _ e)
  | tup e => exact .tup (s _ _ e)
  | dK e => exact .dK (s _ _ e)
  | dT e => exact .dT (s _ _ e)
  | ins e cl ha hn ht hm => exact .ins (s _ _ e) cl ha hn ht hm
theorem tyx_same (s : Same H H') {v : V} {t : Value} (h : TyX K H v t) : TyX K H' v t := by
  cases h with
  | base b => exact .base (tyof_same s b)
  | byt b => exact .byt b
  | set e => exact .set (s _ _ e)
  | kList e c => exact .kList e c
  | kTuple e c => exact .kTuple e c
  | kDict e c => exact .kDict e c
  | fTuple e => exact .fTuple (s _ _ e)
  | fDict e => exact .fDict (s _ _ e)
theorem kd_same (s : Same H H') {v : V} (h : Kd K H v) : Kd K H' v := by
  obtain ⟨t, bi, bb, ty, r⟩ := h
  exact ⟨t, bi, bb, tyx_same s ty, r⟩
theorem ismp_same (s : Same H H') {m : Int} {v : V} {b : Bool} (h : IsMp K H m v b) : IsMp K H' m v b := by
  cases h with
  | no ty k => exact .no (tyx_same s ty) k
  | len h n => exact .len (s _ _ h) n
  | two h kx ky => exact .two (s _ _ h) (kd_same s kx) (kd_same s ky)
mutual
theorem dp_same (s : Same H H') : ∀ (d : PyData) (v : V), Dp K H v d → Dp K H' v d
  | .none, _, h => by cases h; exact .non
  | .bool b, _, h => by cases h; exact .bl b
  | .int i, _, h => by cases h; exact .int i
  | .str x, _, h => by cases h; exact .str x
  | .list ds, _, h => by
    cases h with
    | lst hs ha => exact .lst (s.seq hs) (dps_same s ds _ ha)
  | .tuple ds, _, h => by
    cases h with
    | tup hs ha => exact .tup (sm_tup s hs) (dps_same s ds _ ha)
  | .dict _, _, h => by cases h
theorem dps_same (s : Same H H') : ∀ (ds : List PyData) (vs : List V), DpAll K H vs ds → DpAll K H' vs ds
  | [], _, h => by cases h; exact .nil
  | d :: ds, _, h => by
    cases h with
    | cons h1 h2 => exact .cons (dp_same s d _ h1) (dps_same s ds _ h2)
end
/-- a value that repr shows: its data, how deep, how large -/
structure It (K : PySem.W.Frag) (H : Hp) (v : V) (d : PyData) (e k : Nat) : Prop where
  dp : Dp K H v d
  sh : d.showable = true
  de : d.depth ≤ e
  ls : d.leavesShort 13 = true
  bk : d.bulk ≤ k
inductive Its (K : PySem.W.Frag) (H : Hp) : List V → List PyData → Nat → Nat → Prop where
  | nil {e : Nat} : Its K H [] [] e 0
  | cons {v : V} {vs : List V} {d : PyData} {ds : List PyData} {e k l : Nat} (h : It K H v d e k) (r : Its K H vs ds e l) : Its K H (v :: vs) (d :: ds) e (k + 1 + l)
theorem It.up {v : V} {d : PyData} {e k e' k' : Nat} (h : It K H v d e k) (he : e ≤ e') (hk : k ≤ k') : It K H v d e' k' :=
  ⟨h.dp, h.sh, Nat.le_trans h.de he, h.ls, Nat.le_trans h.bk hk⟩
theorem its_all {vs : List V} {ds : List PyData} {e k : Nat} (h : Its K H vs ds e k) :
    DpAll K H vs ds ∧ PyData.showableAll ds = true ∧ PyData.depthAll ds ≤ e ∧ PyData.leavesShortAll 13 ds = true ∧ PyData.bulkAll ds ≤ k := by
  induction h with
  | nil => exact ⟨.nil, by simp [PyData.showableAll], by simp [PyData.depthAll], by simp [PyData.leavesShortAll], by simp [PyData.bulkAll]⟩
  | cons h r ih =>
    obtain ⟨a, b, c, d, f⟩ := ih
    refine ⟨.cons h.dp a, ?_, ?_, ?_, ?_⟩
    · simp only [PyData.showableAll, h.sh, b, Bool.and_self]
    · simp only [PyData.depthAll]; exact Nat.max_le.mpr ⟨h.de, c⟩
    · simp only [PyData.leavesShortAll, h.ls, d, Bool.and_self]
    · simp only [PyData.bulkAll]; have := h.bk; omega
theorem it_tup {a : Addr} {vs : List V} {ds : List PyData} {e k : Nat} (h : H a = some (.tup vs)) (r : Its K H vs ds e k) : It K H (.ref a) (.tuple ds) (e + 1) k := by
  obtain ⟨h1, h2, h3, h4, h5⟩ := its_all r
  refine ⟨.tup (SqT.of h) h1, ?_, ?_, ?_, ?_⟩
  · simp only [PyData.showable]; exact h2
  · simp only [PyData.depth]; omega
  · simp only [PyData.leavesShort]; exact h4
  · simp only [PyData.bulk]; exact h5
theorem it_lst {a : Addr} {vs : List V} {ds : List PyData} {e k : Nat} (h : H a = some (.lst vs)) (r : Its K H vs ds e k) : It K H (.ref a) (.list ds) (e + 1) k := by
  obtain ⟨h1, h2, h3, h4, h5⟩ := its_all r
  refine ⟨.lst (SqL.of h) h1, ?_, ?_, ?_, ?_⟩
  · simp only [PyData.showable]; exact h2
  · simp only [PyData.depth]; omega
  · simp only [PyData.leavesShort]; exact h4
  · simp only [PyData.bulk]; exact h5
theorem it_int {i : Int} (h : i.natAbs < 1000000000000) : It K H (.int i) (.int i) 0 0 := by
  have h2 : i.natAbs < 2 ^ 64 := Nat.lt_of_lt_of_le h (by decide)
  have h3 : i.natAbs.log2 < 1920 := Nat.lt_of_lt_of_le (PySem.Flt.log2_lt_of (by decide) h2) (by decide)
  refine ⟨.int i, ?_, by simp [PyData.depth], int_short h, by simp [PyData.bulk]⟩
  simp only [PyData.showable]
  exact decide_eq_true h3
theorem it_bl (b : Bool) : It K H (.bl b) (.bool b) 0 0 := ⟨.bl b, by simp only [PyData.showable], by simp [PyData.depth], by simp only [PyData.leavesShort], by simp [PyData.bulk]⟩
theorem it_non : It K H .non .none 0 0 := ⟨.non, by simp only [PyData.showable], by simp [PyData.depth], by simp only [PyData.leavesShort], by simp [PyData.bulk]⟩
theorem it_str {x : Str} (h : (x.cps.toList.all fun c => decide (c < 16 ^ 8)) = true) (hk : x.cps.size ≤ 100) : It K H (.str x) (.str x) 0 100 :=
  ⟨.str x, by simp only [PyData.showable], by simp [PyData.depth], by simp only [PyData.leavesShort]; exact h, by simp only [PyData.bulk]; exact hk⟩
theorem It.rp {v : V} {d : PyData} {e k : Nat} (h : It K H v d e k) (he : e ≤ 60) (hk : k ≤ 1048576) : Rp K H v d :=
  ⟨h.dp, h.sh, Nat.le_trans h.de he, PyData.shown_fits_bulk (B := 13) (by decide) (by decide) h.ls (Nat.le_trans h.bk (by show k ≤ 2 ^ 20; exact Nat.le_trans hk (by decide)))⟩
theorem rp_same (s : Same H H') {v : V} {d : PyData} (h : Rp K H v d) : Rp K H' v d := ⟨dp_same s _ _ h.dp, h.sh, h.de, h.le⟩
/-- what repr shows of a value: data, or the empty dict -/
def Shw (K : PySem.W.Frag) (H : Hp) (v : V) (x : Str) : Prop := (∃ d, Rp K H v d ∧ x = d.shown) ∨ (∃ a, v = .ref a ∧ H a = some (.dK []) ∧ x = PyData.shown (.dict []))
theorem shw_same (s : Same H H') {v : V} {x : Str} (h : Shw K H v x) : Shw K H' v x := by
  rcases h with ⟨d, r, e⟩ | ⟨a, e1, e2, e3⟩
  · exact .inl ⟨d, rp_same s r, e⟩
  · exact .inr ⟨a, e1, s _ _ e2, e3⟩
/-- all that a law asks of a value: whether it is a map modulo m, how it is shown -/
def Vok (K : PySem.W.Frag) (H : Hp) (m : Int) (v : V) : Prop := (∃ b, IsMp K H m v b) ∧ ∃ x, Shw K H v x
theorem vok_same (s : Same H H') {m : Int} {v : V} (h : Vok K H m v) : Vok K H' m v := by
  obtain ⟨⟨b, hb⟩, x, hx⟩ := h
  exact ⟨⟨b, ismp_same s hb⟩, x, shw_same s hx⟩
/-- the heap without two of its places -/
def mask (p u : Addr) (H : Hp) : Hp := fun b => if b = p then none else if b = u then none else H b
theorem mask_at {p u b : Addr} (h1 : b ≠ p) (h2 : b ≠ u) : mask p u H b = H b := by
  unfold mask; rw [if_neg h1, if_neg h2]
theorem mask_same {p u : Addr} : Same (mask p u H) H := fun b o e => by
  unfold mask at e
  by_cases h1 : b = p
  · rw [if_pos h1] at e; cases e
  · rw [if_neg h1] at e
    by_cases h2 : b = u
    · rw [if_pos h2] at e; cases e
    · rw [if_neg h2] at e; exact e
theorem mask_mono {p u : Addr} (h : ∀ b o, b ≠ p → b ≠ u → H b = some o → H' b = some o) : Same (mask p u H) (mask p u H') := fun b o e => by
  unfold mask at e ⊢
  by_cases h1 : b = p
  · rw [if_pos h1] at e; cases e
  · rw [if_neg h1] at e ⊢
    by_cases h2 : b = u
    · rw [if_pos h2] at e; cases e
    · rw [if_neg h2] at e ⊢; exact h b o h1 h2 e
end
section
variable {X : Cx}
def rReprS (K : PySem.W.Frag) : List V → Hp → VK → Prop := fun xs H Q => ∃ v x, xs = [v] ∧ Shw K H v x ∧ Q (.str x) H
theorem call_reprS (hgu : X.A.guards = some []) (hu : X.A.units + 64 < cLine) : CallR X (.builtin "repr") (rReprS X.K) := by
  intro pins s σ H xs us Q I r h
  obtain ⟨v, x, rfl, hs, q⟩ := h
  rcases hs with ⟨d, rp, rfl⟩ | ⟨a, rfl, ha, rfl⟩
  · exact call_repr hgu hu pins s σ H [v] us Q I r ⟨v, d, rfl, rp.dp, rp.sh, rp.de, rp.le, q⟩
  · obtain ⟨u, rfl, ru⟩ := vals1 r
    cases ru
    obtain ⟨_, hsys, vs, kv, o, es, ep, h1, h2, h3, h4, h5, h6⟩ := (show ObjOk X.prog X.w H s.heap a (.dK []) from I.hok a _ ha)
    cases kv
    generalize hl : es.toList = l at h5
    cases h5
    have R : Reads s.heap (.ref a) (.dict []) (a :: [] ++ []) :=
      .dict h1 h2.1 h3 (by rw [hl]; exact .nil) (by rw [hl]; exact .nil)
    refine repr_of_reads' R rfl (fun _ e => ?_) hgu (by show X.A.units + (PyData.depth (.dict []) + 1) < cLine; have : PyData.depth (.dict []) ≤ 1 := by decide
                                                        omega) (fun _ _ e => e)
      (fun h' uu tk kk => ⟨.str _, H, I.kept kk, ⟨_, rfl⟩, q⟩) (by decide)
    rcases List.mem_cons.mp e with e | e
    · subst e; cases hsys
    · cases e
end
end Vg

set_option Elab.async false
set_option linter.all false
set_option maxRecDepth 100000
set_option maxHeartbeats 2000000
namespace Vg
open PySem PySem.Spec PyProof.Rows L2
def top (i : Nat) : Stmt := PySem.Challenge.pw_affinewalk_k02_values_that_are_maps.main.body.getD i (.Pass ⟨0, 0, 0, 0⟩)
abbrev s_is_whole : Stmt := top 2
theorem sc_is_whole : FnScope ["value"] ["value"] (defScope s_is_whole) := ⟨rfl, rfl, rfl, by decide +kernel, rfl, by decide +kernel, by decide +kernel⟩
abbrev s_is_between : Stmt := top 3
theorem sc_is_between : FnScope ["value", "low", "high"] ["value", "low", "high"] (defScope s_is_between) := ⟨rfl, rfl, rfl, by decide +kernel, rfl, by decide +kernel, by decide +kernel⟩
abbrev s_is_map : Stmt := top 5
theorem sc_is_map : FnScope ["m", "value", "a", "b"] ["m", "value"] (defScope s_is_map) := ⟨rfl, rfl, rfl, by decide +kernel, rfl, by decide +kernel, by decide +kernel⟩
abbrev s__law_pen : Stmt := top 7
theorem sc__law_pen : FnScope ["script"] ["script"] (defScope s__law_pen) := ⟨rfl, rfl, rfl, by decide +kernel, rfl, by decide +kernel, by decide +kernel⟩
abbrev s__law_draw : Stmt := top 8
theorem sc__law_draw : FnScope ["pen", "many", "digit", "turn", "cell", "primes", "prime", "drawn"] ["pen", "many"] (defScope s__law_draw) := ⟨rfl, rfl, rfl, by decide +kernel, rfl, by decide +kernel, by decide +kernel⟩
abbrev s__law_pick : Stmt := top 9
theorem sc__law_pick : FnScope ["pen", "some"] ["pen", "some"] (defScope s__law_pick) := ⟨rfl, rfl, rfl, by decide +kernel, rfl, by decide +kernel, by decide +kernel⟩
abbrev s__law_shuffled : Stmt := top 10
theorem sc__law_shuffled : FnScope ["pen", "some", "left", "found"] ["pen", "some"] (defScope s__law_shuffled) := ⟨rfl, rfl, rfl, by decide +kernel, rfl, by decide +kernel, by decide +kernel⟩
abbrev s__law_gcd : Stmt := top 11
theorem sc__law_gcd : FnScope ["one", "other"] ["one", "other"] (defScope s__law_gcd) := ⟨rfl, rfl, rfl, by decide +kernel, rfl, by decide +kernel, by decide +kernel⟩
abbrev s__law_modulus : Stmt := top 12
theorem sc__law_modulus : FnScope ["pen", "most", "found", "primes", "k", "prime"] ["pen", "most"] (defScope s__law_modulus) := ⟨rfl, rfl, rfl, by decide +kernel, rfl, by decide +kernel, by decide +kernel⟩
abbrev s__law_divisors : Stmt := top 13
theorem sc__law_divisors : FnScope ["m", "found", "left", "prime", "powers", "every", "factor", "one"] ["m"] (defScope s__law_divisors) := ⟨rfl, rfl, rfl, by decide +kernel, rfl, by decide +kernel, by decide +kernel⟩
abbrev s__law_unit : Stmt := top 14
theorem sc__law_unit : FnScope ["pen", "m", "share", "near", "number"] ["pen", "m"] (defScope s__law_unit) := ⟨rfl, rfl, rfl, by decide +kernel, rfl, by decide +kernel, by decide +kernel⟩
abbrev s__law_map : Stmt := top 15
theorem sc__law_map : FnScope ["pen", "m", "share"] ["pen", "m"] (defScope s__law_map) := ⟨rfl, rfl, rfl, by decide +kernel, rfl, by decide +kernel, by decide +kernel⟩
abbrev s__law_is_map : Stmt := top 16
theorem sc__law_is_map : FnScope ["m", "value", "one"] ["m", "value"] (defScope s__law_is_map) := ⟨rfl, rfl, rfl, by decide +kernel, rfl, by decide +kernel, by decide +kernel⟩
abbrev s_law : Stmt := top 17
theorem sc_law : FnScope ["script", "pen", "bout", "m", "f", "some", "k", "value", "kept"] ["script"] (defScope s_law) := ⟨rfl, rfl, rfl, by decide +kernel, rfl, by decide +kernel, by decide +kernel⟩
-- a ≠ b; a place of a heap; what is kept
local macro_rules | `(tactic| walk_at "nq") => `(tactic| with_reducible first
  | assumption
  | (apply Ne.symm; assumption))
local macro_rules | `(tactic| walk_at "hp") => `(tactic| with_reducible first
  | assumption
  | exact upd_same
  | (refine Eq.trans (upd_ne ?_) ?_; (with_reducible walk_at "nq"); (with_reducible walk_at "hp")))
local macro_rules | `(tactic| walk_at "sm") => `(tactic| with_reducible first
  | assumption
  | exact Same.refl _
  | exact But.refl _ _
  | (refine sm_nw ?_ ?_; rotate_left; (with_reducible assumption); walk_at "sm")
  | (refine But.nw ?_ ?_; rotate_left; (with_reducible assumption); walk_at "sm")
  | (refine sm_own ?_ ?_; rotate_left; (with_reducible assumption); walk_at "sm")
  | (refine But.own ?_ ?_; rotate_left; (with_reducible assumption); walk_at "sm")
  | (refine But.wr ?_; walk_at "sm"))

structure Txt (K : PySem.W.Frag) (mg : Str → Option Value) : Prop where
  f_abs : mg "abs" = none
  f_bool : mg "bool" = none
  h_gcd : mg "gcd" = some (.builtin "math.gcd")
  f_int : mg "int" = none
  f_isinstance : mg "isinstance" = none
  f_len : mg "len" = none
  f_list : mg "list" = none
  f_min : mg "min" = none
  f_range : mg "range" = none
  f_repr : mg "repr" = none
  f_sorted : mg "sorted" = none
  f_tuple : mg "tuple" = none
section
variable {P : Program} {w : World} {K : PySem.W.Frag} {mg : Str → Option Value} {base : Heap}
theorem c_pen (D : DefAt K mg "_law_pen" s__law_pen) (T : Txt K mg) :
    Cal P w K mg base 1 "_law_pen" ["script"] (sp_pen K) := by
  refine cal_mk D sc__law_pen (fun _ _ _ _ _ _ _ us hl => match us, hl with | [_], _ => rfl)
    (fun vs H Q E h => ?_) (fun f cdv A outer s H vs Q hgu hr h => ?_)
  · obtain ⟨a, ns, rfl, _⟩ := h; rfl
  · obtain ⟨a, ns, rfl, hS, hl, k⟩ := h
    have hu := hu_of hr
    refine ⟨_,
      (pss_one (ps_ret (pe_disp (pps_cons pe_str (pe_callTy call_list_of (by rfl) T.f_list (by decide +kernel) (pa_cons (pe_slice sl_list (pv 0) po_none (po_some pe_int)) pa_nil)) (pps_cons pe_str pe_int (pps_cons pe_str pe_int pps_nil))) (by rfl) (by rfl) (fun z => by cases z) (by decide))))
      , ?_⟩
    intro p hp
    refine ⟨_, rfl, _, rfl, a, _, rfl, (sm_new hp).seq hS, fun q hq => ?_⟩
    refine ⟨q, _, rfl, .inl (SqL.of upd_same), fun l hlf => ?_⟩
    have Hl : H l = none := ((sm_new hq).trans (Same.refl _) |> fun z => (sm_new hp).trans z).free hlf
    have npq : p ≠ q := ne_of_none upd_same hq
    have nql : q ≠ l := ne_of_none upd_same hlf
    have npl : p ≠ l := ne_of_none (o := .dK []) (by walk_at "hp") hlf
    refine ⟨by walk_at "hp", penD l 0 0, rfl, (by show 3 ≤ 15; decide), ?_⟩
    refine k _ p l ?_ hp Hl ⟨ns.take 63, 0, 0, ?_, ?_, by rw [List.length_take]; omega, Int.le_refl _, Int.le_refl _, Int.le_refl _⟩
    · walk_at "sm"
    · rw [upd_same, pen_merge]
    · rw [upd_ne (by walk_at "nq"), upd_same, cut_take]
theorem c_draw (D : DefAt K mg "_law_draw" s__law_draw) (T : Txt K mg) :
    Cal P w K mg base 1 "_law_draw" ["pen", "many"] sp_draw := by
  refine cal_mk D sc__law_draw (fun _ _ _ _ _ _ _ us hl => match us, hl with | [_, _], _ => rfl)
    (fun vs H Q E h => ?_) (fun f cdv A outer s H vs Q hgu hr h => ?_)
  · obtain ⟨p, L, n, many, rfl, _⟩ := h; rfl
  · obtain ⟨p, L, n, many, rfl, hp, hn, h0, h1, k⟩ := h
    have hu := hu_of hr
    refine ⟨_,
      (pss_cons (ps_if (pt_cmpR op_gt (pe_dget hu (pv 0) pe_str (fun _ _ => rfl)) pe_int (nomark _)) (pss_cons (ps_set (i := 2) sc__law_draw.nd rfl (Or.inl rfl) (pe_op op_modN (pe_dget hu (pv 0) pe_str (fun _ _ => rfl)) (pv 1)))
        (pss_cons (ps_dput hu (pv 0) pe_str (pe_op op_fdivW (pe_dget hu (pv 0) pe_str (fun _ _ => rfl)) (pv 1)) rfl)
        (pss_one (ps_ret (pv 2))))) pss_nil)
      (pss_cons (ps_set (i := 3) sc__law_draw.nd rfl (Or.inl rfl) (pe_dget hu (pv 0) pe_str (fun _ _ => rfl)))
      (pss_cons (ps_dput hu (pv 0) pe_str (pe_op op_add (pv 3) pe_int) rfl)
      (pss_cons (ps_set (i := 4) sc__law_draw.nd rfl (Or.inl rfl) (pe_op op_add (pe_op op_mul pe_int (pv 3)) pe_int))
      (pss_cons (ps_if (pt_cmpR (op_neD hr.units) (pe_dget hu (pv 0) pe_str (fun _ _ => rfl)) (pe_lst pa_nil) (nomark _)) (pss_one (ps_set (i := 4) sc__law_draw.nd rfl (Or.inl rfl) (pe_ix ix_list (pe_dget hu (pv 0) pe_str (fun _ _ => rfl)) (pe_op op_modN (pv 3) (pe_callB call_len_seq (by rfl) T.f_len (by decide +kernel) (pa_cons (pe_dget hu (pv 0) pe_str (fun _ _ => rfl)) pa_nil))) (fun _ _ => rfl)))) pss_nil)
      (pss_cons (ps_if (PW.pt (pw_and (pt_cmpR op_lt (pv 3) (pe_callB call_len_seq (by rfl) T.f_len (by decide +kernel) (pa_cons (pe_dget hu (pv 0) pe_str (fun _ _ => rfl)) pa_nil)) (nomark _)) (pw_and1 (pt_cmpR op_ge (pe_callB call_abs (by rfl) T.f_abs (by decide +kernel) (pa_cons (pv 4) pa_nil)) (pe_op op_pow pe_int pe_int) (nomark _))))) (pss_cons (ps_dput hu (pv 0) pe_str (pe_op op_fdivW (pe_op op_sub (pe_callB call_abs (by rfl) T.f_abs (by decide +kernel) (pa_cons (pv 4) pa_nil)) (pe_op op_pow pe_int pe_int)) (pv 1)) rfl)
        (pss_one (ps_ret (pe_op op_modN (pe_op op_sub (pe_callB call_abs (by rfl) T.f_abs (by decide +kernel) (pa_cons (pv 4) pa_nil)) (pe_op op_pow pe_int pe_int)) (pv 1))))) pss_nil)
      (pss_cons (ps_set (i := 5) sc__law_draw.nd rfl (Or.inl rfl) (pe_lst (pa_cons pe_int (pa_cons pe_int (pa_cons pe_int (pa_cons pe_int (pa_cons pe_int pa_nil)))))))
      (pss_cons (ps_set (i := 6) sc__law_draw.nd rfl (Or.inl rfl) (pe_ix ix_list (pv 5) (pe_op op_modN (pv 3) pe_int) (fun _ _ => rfl)))
      (pss_cons (ps_set (i := 7) sc__law_draw.nd rfl (Or.inl rfl) (pe_op op_modN (pe_op op_add (pe_op op_add (pe_op op_mul (pe_op op_modN (pv 4) (pv 6)) pe_int) (pe_op op_mul (pe_op op_mul pe_int (pv 3)) (pv 3))) pe_int) (pv 6)))
      (pss_cons (ps_set (i := 7) sc__law_draw.nd rfl (Or.inl rfl) (pe_op op_modN (pe_op op_mul (pv 7) (pe_op op_add (pv 7) pe_int)) (pe_ix ix_list (pv 5) (pe_op op_modN (pe_op op_add (pv 3) pe_int) pe_int) (fun _ _ => rfl))))
      (pss_one (ps_ret (pe_op op_modN (pe_op op_fdivN (pe_op op_modN (pe_op op_mul (pv 7) (pv 7)) pe_int) pe_int) (pv 1))))))))))))))
      , ?_⟩
    obtain ⟨cs, t, r, e1, e2, e3, e4, e5, e6⟩ := hp
    have nLp : L ≠ p := ne_dl e2 e1
    have gR := DGet.k (k := Sum.inr "rest") e1
    have gT := DGet.k (k := Sum.inr "turn") e1
    have gC := DGet.k (k := Sum.inr "cells") e1
    rw [pen_rest] at gR
    rw [pen_turn] at gT
    rw [pen_cells] at gC
    refine ⟨_, rfl, p, _, rfl, gR, _, _, rfl, rfl, _, rfl, ite2 (fun c => ?_) (fun c => ?_)⟩
    · -- the next digit of a large cell
      refine ⟨_, rfl, p, _, rfl, gR, _, rfl, _, _, rfl, rfl, (by show many ≠ 0; omega), ?_⟩
      refine ⟨_, rfl, p, _, rfl, gR, _, rfl, _, _, rfl, rfl, ⟨h0, h1⟩, _, rfl, p, _, rfl, DPut.k (k := Sum.inr "rest") e1 (by show 3 < sizeLine; decide), _, rfl, ?_⟩
      rw [pen_putR]
      have b := fmod_b (a := r) h0
      exact k _ _ (But.refl _ _).wr ⟨cs, t, r / many, upd_same, by rw [upd_ne nLp]; exact e2, e3, e4, by omega, Int.ediv_nonneg e6 (by omega)⟩ b.1 b.2
    · -- a new cell
      refine ⟨_, rfl, p, _, rfl, gT, ?_⟩
      refine ⟨_, rfl, _, _, rfl, rfl, _, rfl, p, _, rfl, DPut.k (k := Sum.inr "turn") e1 (by show 3 < sizeLine; decide), ?_⟩
      rw [pen_putT]
      generalize hH1 : upd H p (.dK (penD L (t + 1) r)) = H1
      have b1 : But p H H1 := by rw [← hH1]; exact (But.refl _ _).wr
      have f1 : H1 p = some (.dK (penD L (t + 1) r)) := by rw [← hH1]; exact upd_same
      have f2 : H1 L = some (.lst (cs.map V.int)) := by rw [← hH1, upd_ne nLp]; exact e2
      clear hH1
      have gC := DGet.k (k := Sum.inr "cells") f1
      rw [pen_cells] at gC
      refine ⟨_, rfl, _, _, rfl, rfl, (by constructor <;> decide), _, _, rfl, rfl, ?_⟩
      -- cell
      have cpow : CPow 10 18 := ⟨by decide, by decide, by decide⟩
      have hmany : many ≠ 0 := by omega
      have h5 : (5 : Int) ≠ 0 := by decide
      have h49 : (2147483549 : Int) ≠ 0 := by decide
      refine ⟨_, rfl, p, _, rfl, gC, Nat.zero_le _, fun q hq => ?_⟩
      have npq : p ≠ q := ne_of_none f1 hq
      have nLq : L ≠ q := ne_of_none f2 hq
      refine ⟨.list (cs.map PyData.int), .list [], Dp.lst (SqL.of (by walk_at "hp")) (dp_ints cs), Dp.lst (SqL.of upd_same) .nil, shaped_ints cs, rfl, _, rfl, ?_⟩
      rw [eqv_nil]
      have b2 : But p H (upd H1 q (.lst [])) := by walk_at "sm"
      have g1 : (upd H1 q (.lst [])) p = some (.dK (penD L (t + 1) r)) := by walk_at "hp"
      have g2 : (upd H1 q (.lst [])) L = some (.lst (cs.map V.int)) := by walk_at "hp"
      generalize upd H1 q (.lst []) = H2 at b2 g1 g2 ⊢
      have gC2 := DGet.k (k := Sum.inr "cells") g1
      rw [pen_cells] at gC2
      have nLp2 : L ≠ p := nLp
      clear hq b1 f1 f2 gC gR gT
      refine ite2 (fun c1 => ?_) (fun c1 => ?_)
      · have hpos : 0 < cs.length := by
          cases cs with
          | nil => cases c1
          | cons a b => simp
        obtain ⟨v, hv⟩ := at_mod (t := t) hpos
        have hne : (((cs.map V.int).length : Nat) : Int) ≠ 0 := by rw [List.length_map]; omega
        refine ⟨_, rfl, p, _, rfl, gC2, _, rfl, _, rfl, p, _, rfl, gC2, L, _, rfl, .inl (SqL.of g2), _, _, rfl, rfl, hne, L, _, _, _, rfl, rfl, SqL.of g2, hv, ?_⟩
        clear hne hv hpos
        clear c1
        refine ⟨_, rfl, _, rfl, p, _, rfl, gC2, L, _, rfl, .inl (SqL.of g2), _, _, rfl, rfl, _, rfl, ?_⟩
        refine ite2 (fun c2 => ?_) (fun c2 => iteF ?_)
        refine ⟨_, rfl, _, rfl, _, _, rfl, rfl, cpow, _, _, rfl, rfl, _, rfl, ?_⟩
        refine ite2 (fun c3 => ?_) (fun c3 => ?_)
        · -- a large cell
          refine ⟨_, rfl, _, rfl, _, _, rfl, rfl, cpow, _, _, rfl, rfl, _, rfl, _, _, rfl, rfl, ⟨h0, h1⟩, _, rfl, p, _, rfl, DPut.k (k := Sum.inr "rest") g1 (by show 3 < sizeLine; decide), ?_⟩
          rw [pen_putR]
          refine ⟨_, rfl, _, rfl, _, _, rfl, rfl, cpow, _, _, rfl, rfl, _, rfl, _, _, rfl, rfl, hmany, ?_⟩
          have c4 : (10 : Int) ^ (18 : Int).toNat ≤ (if v < 0 then -v else v) := of_decide_eq_true c3
          have hb := fmod_b (a := (if v < 0 then -v else v) - 10 ^ (18 : Int).toNat) h0
          exact k _ _ b2.wr ⟨cs, t + 1, _, upd_same, by rw [upd_ne nLp]; exact g2, e3, by omega, by omega, Int.ediv_nonneg (by omega) (by omega)⟩ hb.1 hb.2
        all_goals
          refine ⟨(by show 5 ≤ sizeLine; decide), fun l hl => ?_⟩
          have npl : p ≠ l := ne_of_none g1 hl
          have nLl : L ≠ l := ne_of_none g2 hl
          obtain ⟨p1, hp1, p1a, p1b⟩ := pick5 (a := 2147483647) (b := 2147483629) (c := 2147483587) (d := 2147483579) (e := 2147483563) (t := t) (fun z => 2147483563 ≤ z ∧ z ≤ 2147483647) (by decide) (by decide) (by decide) (by decide) (by decide) e4
          obtain ⟨p2, hp2, p2a, p2b⟩ := pick5 (a := 2147483647) (b := 2147483629) (c := 2147483587) (d := 2147483579) (e := 2147483563) (t := t + 3) (fun z => 2147483563 ≤ z ∧ z ≤ 2147483647) (by decide) (by decide) (by decide) (by decide) (by decide) (by omega)
          have hq1 : p1 ≠ 0 := by omega
          have hq2 : p2 ≠ 0 := by omega
          refine ⟨_, rfl, _, rfl, _, _, rfl, rfl, h5, l, _, _, _, rfl, rfl, SqL.of upd_same, hp1, ?_⟩
          have m1 := fmod_b (a := v) (b := p1) (by omega)
          refine ⟨_, rfl, _, rfl, _, _, rfl, rfl, hq1, _, _, rfl, rfl, .inl ⟨by omega, by omega⟩, _, rfl, _, _, rfl, rfl, .inl ⟨by decide, by decide⟩, _, rfl, _, _, rfl, rfl, .inl ⟨by omega, by omega⟩, _, _, rfl, rfl, _, _, rfl, rfl, _, rfl, _, _, rfl, rfl, hq1, ?_⟩
          have m2 := fmod_b (a := v.fmod p1 * 69621 + 40692 * t * t + 17) (b := p1) (by omega)
          refine ⟨_, rfl, _, rfl, _, _, rfl, rfl, _, _, rfl, rfl, .inl ⟨by omega, by omega⟩, _, rfl, _, rfl, _, _, rfl, rfl, _, _, rfl, rfl, h5, l, _, _, _, rfl, rfl, SqL.of upd_same, hp2, _, _, rfl, rfl, hq2, ?_⟩
          have m3 := fmod_b (a := ((v.fmod p1 * 69621 + 40692 * t * t + 17).fmod p1) * (((v.fmod p1 * 69621 + 40692 * t * t + 17).fmod p1) + 48271)) (b := p2) (by omega)
          refine ⟨_, rfl, _, rfl, _, _, rfl, rfl, .inl ⟨by omega, by omega⟩, _, _, rfl, rfl, h49, _, _, rfl, rfl, ⟨by decide, by decide⟩, _, rfl, _, _, rfl, rfl, hmany, ?_⟩
          have hb := fmod_b (a := (Int.fmod (((((v.fmod p1 * 69621 + 40692 * t * t + 17).fmod p1) * (((v.fmod p1 * 69621 + 40692 * t * t + 17).fmod p1) + 48271)).fmod p2) * ((((v.fmod p1 * 69621 + 40692 * t * t + 17).fmod p1) * (((v.fmod p1 * 69621 + 40692 * t * t + 17).fmod p1) + 48271)).fmod p2)) 2147483549).fdiv 64) h0
          refine k _ _ ?_ ⟨cs, t + 1, r, ?_, ?_, e3, by omega, by omega, e6⟩ hb.1 hb.2
          · walk_at "sm"
          · walk_at "hp"
          · walk_at "hp"
      · have hne := cs.length
        clear c1
        refine ⟨_, rfl, _, rfl, p, _, rfl, gC2, L, _, rfl, .inl (SqL.of g2), _, _, rfl, rfl, _, rfl, ?_⟩
        refine ite2 (fun c2 => ?_) (fun c2 => iteF ?_)
        refine ⟨_, rfl, _, rfl, _, _, rfl, rfl, cpow, _, _, rfl, rfl, _, rfl, ?_⟩
        refine ite2 (fun c3 => ?_) (fun c3 => ?_)
        · -- a large cell
          refine ⟨_, rfl, _, rfl, _, _, rfl, rfl, cpow, _, _, rfl, rfl, _, rfl, _, _, rfl, rfl, ⟨h0, h1⟩, _, rfl, p, _, rfl, DPut.k (k := Sum.inr "rest") g1 (by show 3 < sizeLine; decide), ?_⟩
          rw [pen_putR]
          refine ⟨_, rfl, _, rfl, _, _, rfl, rfl, cpow, _, _, rfl, rfl, _, rfl, _, _, rfl, rfl, hmany, ?_⟩
          have c4 : (10 : Int) ^ (18 : Int).toNat ≤ (if (37 * t + 11) < 0 then -(37 * t + 11) else (37 * t + 11)) := of_decide_eq_true c3
          have hb := fmod_b (a := (if (37 * t + 11) < 0 then -(37 * t + 11) else (37 * t + 11)) - 10 ^ (18 : Int).toNat) h0
          exact k _ _ b2.wr ⟨cs, t + 1, _, upd_same, by rw [upd_ne nLp]; exact g2, e3, by omega, by omega, Int.ediv_nonneg (by omega) (by omega)⟩ hb.1 hb.2
        all_goals
          refine ⟨(by show 5 ≤ sizeLine; decide), fun l hl => ?_⟩
          have npl : p ≠ l := ne_of_none g1 hl
          have nLl : L ≠ l := ne_of_none g2 hl
          obtain ⟨p1, hp1, p1a, p1b⟩ := pick5 (a := 2147483647) (b := 2147483629) (c := 2147483587) (d := 2147483579) (e := 2147483563) (t := t) (fun z => 2147483563 ≤ z ∧ z ≤ 2147483647) (by decide) (by decide) (by decide) (by decide) (by decide) e4
          obtain ⟨p2, hp2, p2a, p2b⟩ := pick5 (a := 2147483647) (b := 2147483629) (c := 2147483587) (d := 2147483579) (e := 2147483563) (t := t + 3) (fun z => 2147483563 ≤ z ∧ z ≤ 2147483647) (by decide) (by decide) (by decide) (by decide) (by decide) (by omega)
          have hq1 : p1 ≠ 0 := by omega
          have hq2 : p2 ≠ 0 := by omega
          refine ⟨_, rfl, _, rfl, _, _, rfl, rfl, h5, l, _, _, _, rfl, rfl, SqL.of upd_same, hp1, ?_⟩
          have m1 := fmod_b (a := (37 * t + 11)) (b := p1) (by omega)
          refine ⟨_, rfl, _, rfl, _, _, rfl, rfl, hq1, _, _, rfl, rfl, .inl ⟨by omega, by omega⟩, _, rfl, _, _, rfl, rfl, .inl ⟨by decide, by decide⟩, _, rfl, _, _, rfl, rfl, .inl ⟨by omega, by omega⟩, _, _, rfl, rfl, _, _, rfl, rfl, _, rfl, _, _, rfl, rfl, hq1, ?_⟩
          have m2 := fmod_b (a := (37 * t + 11).fmod p1 * 69621 + 40692 * t * t + 17) (b := p1) (by omega)
          refine ⟨_, rfl, _, rfl, _, _, rfl, rfl, _, _, rfl, rfl, .inl ⟨by omega, by omega⟩, _, rfl, _, rfl, _, _, rfl, rfl, _, _, rfl, rfl, h5, l, _, _, _, rfl, rfl, SqL.of upd_same, hp2, _, _, rfl, rfl, hq2, ?_⟩
          have m3 := fmod_b (a := (((37 * t + 11).fmod p1 * 69621 + 40692 * t * t + 17).fmod p1) * ((((37 * t + 11).fmod p1 * 69621 + 40692 * t * t + 17).fmod p1) + 48271)) (b := p2) (by omega)
          refine ⟨_, rfl, _, rfl, _, _, rfl, rfl, .inl ⟨by omega, by omega⟩, _, _, rfl, rfl, h49, _, _, rfl, rfl, ⟨by decide, by decide⟩, _, rfl, _, _, rfl, rfl, hmany, ?_⟩
          have hb := fmod_b (a := (Int.fmod ((((((37 * t + 11).fmod p1 * 69621 + 40692 * t * t + 17).fmod p1) * ((((37 * t + 11).fmod p1 * 69621 + 40692 * t * t + 17).fmod p1) + 48271)).fmod p2) * (((((37 * t + 11).fmod p1 * 69621 + 40692 * t * t + 17).fmod p1) * ((((37 * t + 11).fmod p1 * 69621 + 40692 * t * t + 17).fmod p1) + 48271)).fmod p2)) 2147483549).fdiv 64) h0
          refine k _ _ ?_ ⟨cs, t + 1, r, ?_, ?_, e3, by omega, by omega, e6⟩ hb.1 hb.2
          · walk_at "sm"
          · walk_at "hp"
          · walk_at "hp"
end
end Vg

set_option Elab.async false
set_option linter.all false
set_option maxRecDepth 100000
set_option maxHeartbeats 2000000
namespace Vg
open PySem PySem.Spec PyProof.Rows L2
-- a ≠ b; a place of a heap; what is kept
local macro_rules | `(tactic| walk_at "nq") => `(tactic| with_reducible first
  | assumption
  | (apply Ne.symm; assumption))
local macro_rules | `(tactic| walk_at "hp") => `(tactic| with_reducible first
  | assumption
  | exact upd_same
  | (refine Eq.trans (upd_ne ?_) ?_; (with_reducible walk_at "nq"); (with_reducible walk_at "hp")))
local macro_rules | `(tactic| walk_at "sm") => `(tactic| with_reducible first
  | assumption
  | exact Same.refl _
  | exact But.refl _ _
  | (refine sm_nw ?_ ?_; rotate_left; (with_reducible assumption); walk_at "sm")
  | (refine But.nw ?_ ?_; rotate_left; (with_reducible assumption); walk_at "sm")
  | (refine sm_own ?_ ?_; rotate_left; (with_reducible assumption); walk_at "sm")
  | (refine But.own ?_ ?_; rotate_left; (with_reducible assumption); walk_at "sm")
  | (refine But.wr ?_; walk_at "sm"))

section
variable {P : Program} {w : World} {K : PySem.W.Frag} {mg : Str → Option Value} {base : Heap}
theorem c_pick (D : DefAt K mg "_law_pick" s__law_pick) (T : Txt K mg)
    (c__law_draw : Cal P w K mg base 1 "_law_draw" ["pen", "many"] sp_draw) :
    Cal P w K mg base 2 "_law_pick" ["pen", "some"] (sp_pick K) := by
  refine cal_mk D sc__law_pick (fun _ _ _ _ _ _ _ us hl => match us, hl with | [_, _], _ => rfl)
    (fun vs H Q E h => ?_) (fun f cdv A outer s H vs Q hgu hr h => ?_)
  · obtain ⟨p, L, a, n, xs, rfl, _⟩ := h; rfl
  · obtain ⟨p, L, a, n, xs, rfl, hp, hn, hS, hap, hpos, hbig, k⟩ := h
    refine ⟨_,
      (pss_one (ps_ret (pe_ix ix_seq (pv 1) (pe_cal c__law_draw hgu (hr.mono (by decide)) (pa_cons (pv 0) (pa_cons (pe_callB call_len_seq (by rfl) T.f_len (by decide +kernel) (pa_cons (pv 1) pa_nil)) pa_nil))) (fun _ _ => rfl))))
      , ?_⟩
    refine ⟨_, rfl, _, rfl, _, rfl, a, xs, rfl, hS, ?_⟩
    refine ⟨p, L, n, _, rfl, hp, hn, by omega, len_log hbig hpos, fun H1 d b1 pn1 d0 d1 => ?_⟩
    obtain ⟨v, hv, hm⟩ := at_in (xs := xs) d0 d1
    rcases hS with hS | hS
    · exact .inl ⟨a, xs, d, v, rfl, rfl, b1.seq hap hS, hv, k _ _ b1 pn1 hm⟩
    · exact .inr (.inl ⟨a, xs, d, v, rfl, rfl, b1.tup hap hS, hv, k _ _ b1 pn1 hm⟩)
theorem c_shuffled (D : DefAt K mg "_law_shuffled" s__law_shuffled) (T : Txt K mg)
    (c__law_draw : Cal P w K mg base 1 "_law_draw" ["pen", "many"] sp_draw) :
    Cal P w K mg base 2 "_law_shuffled" ["pen", "some"] (sp_shuffled K) := by
  refine cal_mk D sc__law_shuffled (fun _ _ _ _ _ _ _ us hl => match us, hl with | [_, _], _ => rfl)
    (fun vs H Q E h => ?_) (fun f cdv A outer s H vs Q hgu hr h => ?_)
  · obtain ⟨p, L, a, n, ns, rfl, _⟩ := h; rfl
  · obtain ⟨p, L, a, n, ns, rfl, hp, hn, hS, hl, k⟩ := h
    refine ⟨_,
      (pss_cons (ps_par (i := 2) (j := 3) (by rfl) sc__law_shuffled.nd rfl rfl (by decide) rfl rfl (pa_cons (pe_callTy call_list_of (by rfl) T.f_list (by decide +kernel) (pa_cons (pv 1) pa_nil)) (pa_cons (pe_lst pa_nil) pa_nil)) (by rfl))
      (pss_cons (ps_while PassesOwn.never (pt_cmpR (op_neD hr.units) (pv 2) (pe_lst pa_nil) (nomark _))
        (pss_one (ps_expr (pe_bm PySem.F.plainAttrs_list PySem.F.slot_list_append PySem.F.type_list_append mt_append (pv 3) (pa_cons (pe_bm PySem.F.plainAttrs_list PySem.F.slot_list_pop PySem.F.type_list_pop mt_popAt (pv 2) (pa_cons (pe_cal c__law_draw hgu (hr.mono (by decide)) (pa_cons (pv 0) (pa_cons (pe_callB call_len_seq (by rfl) T.f_len (by decide +kernel) (pa_cons (pv 2) pa_nil)) pa_nil))) pa_nil)) pa_nil)))))
      (pss_one (ps_ret (pv 3)))))
      , ?_⟩
    refine ⟨_, rfl, a, _, rfl, .inl hS, fun l hlf => ?_⟩
    refine ⟨Nat.zero_le _, fun m hmf => ?_⟩
    have nlm : l ≠ m := ne_of_none upd_same hmf
    have Hm : H m = none := (sm_new hlf).free hmf
    have nlp : l ≠ p := hp.ne_n hlf
    have nmp : m ≠ p := hp.ne_n Hm
    have nlL : l ≠ L := hp.ne_nL hlf
    have nmL : m ≠ L := hp.ne_nL Hm
    have sm0 : Same H (upd (upd H l (.lst (ns.map V.int))) m (.lst [])) := by walk_at "sm"
    refine ⟨_, _, rfl, ?_⟩
    refine ⟨fun j σ' H' => ∃ (ls ms : List Int), σ' = [some (.ref p), some (.ref a), some (.ref l), some (.ref m)] ∧ j = ls.length ∧ But p H H' ∧
      PenAt H' p L (n + ms.length) ∧ H' l = some (.lst (ls.map V.int)) ∧ H' m = some (.lst (ms.map V.int)) ∧ (ms ++ ls).Perm ns, ?_, ?_⟩
    · exact ⟨_, ns, [], rfl, rfl, But.of sm0, (hp.same sm0).mono (Nat.le_refl _), by walk_at "hp", upd_same, List.Perm.refl _⟩
    · rintro j σ' H' ⟨ls, ms, rfl, rfl, b1, pn1, e1, e2, hpm⟩
      have hlen : ms.length + ls.length = ns.length := by rw [← hpm.length_eq, List.length_append]
      refine ⟨_, rfl, Nat.zero_le _, fun q hq => ?_⟩
      have nlq : l ≠ q := ne_of_none e1 hq
      have nmq : m ≠ q := ne_of_none e2 hq
      have npq : p ≠ q := (pn1.ne_n hq).symm
      refine ⟨.list (ls.map PyData.int), .list [], Dp.lst (SqL.of (by walk_at "hp")) (dp_ints ls), Dp.lst (SqL.of upd_same) .nil, shaped_ints ls, rfl, _, rfl, ?_⟩
      rw [eqv_nil]
      have b2 : But p H (upd H' q (.lst [])) := by walk_at "sm"
      have pn2 := pn1.same (sm_new (o := .lst []) hq)
      have f1 : (upd H' q (.lst [])) l = some (.lst (ls.map V.int)) := by walk_at "hp"
      have f2 : (upd H' q (.lst [])) m = some (.lst (ms.map V.int)) := by walk_at "hp"
      generalize upd H' q (.lst []) = H2 at b2 pn2 f1 f2 ⊢
      clear hq b1 pn1 e1 e2
      cases ls with
      | nil =>
        refine iteF ⟨_, rfl, k H2 m ms b2 (pn2.mono (by omega)) Hm f2 ?_⟩
        rw [List.append_nil] at hpm
        exact hpm
      | cons x r =>
        refine iteT ⟨_, fun _ _ z => z, ?_⟩
        refine ⟨_, rfl, .inl ⟨rfl, _, SqL.of f2⟩, _, rfl, .inl ⟨rfl, _, SqL.of f1⟩, _, rfl, _, rfl, l, _, rfl, .inl (SqL.of f1), ?_⟩
        refine ⟨p, L, _, _, rfl, pn2, by omega, by simp, len_log (by rw [List.length_map]; omega) (by simp), fun H3 d b3 pn3 d0 d1 => ?_⟩
        have g1 := b3 _ _ nlp f1
        have g2 := b3 _ _ nmp f2
        obtain ⟨i, rfl⟩ : ∃ i : Nat, d = (i : Int) := ⟨d.toNat, by omega⟩
        have hi : i < (x :: r).length := by
          have z := d1
          rw [List.length_map] at z
          omega
        have hiv : ((x :: r).map V.int)[i]? = some (V.int (x :: r)[i]) := by
          rw [List.getElem?_map, List.getElem?_eq_getElem hi]; rfl
        refine ⟨l, _, _, i, _, rfl, rfl, g1, by omega, by omega, seq_nat (by rw [List.length_map]; exact hi), hiv, ?_⟩
        refine ⟨m, _, _, rfl, rfl, (by walk_at "hp"), (by show (ms.map V.int).length < sizeLine; rw [List.length_map]; exact Nat.lt_of_lt_of_le (by omega : ms.length < 1001) (by decide)), ?_⟩
        refine ⟨_, by show ((x :: r).eraseIdx i).length < (x :: r).length; rw [List.length_eraseIdx_of_lt hi]; simp, (x :: r).eraseIdx i, ms ++ [(x :: r)[i]], rfl, rfl, ?_, ?_, ?_, ?_, ?_⟩
        · have b4 := b2.trans b3
          walk_at "sm"
        · rw [List.length_append, List.length_singleton, ← Nat.add_assoc]
          exact (pn3.wr nlp nlL).wr nmp nmL
        · rw [map_erase]
          walk_at "hp"
        · rw [List.map_append]
          exact upd_same
        · refine (List.Perm.trans ?_ hpm)
          rw [List.append_assoc]
          exact List.Perm.append_left _ (perm_erase hi)
end
end Vg

set_option Elab.async false
set_option linter.all false
set_option maxRecDepth 100000
set_option maxHeartbeats 2000000
namespace Vg
open PySem PySem.Spec PyProof.Rows L2
-- a ≠ b; a place of a heap; what is kept
local macro_rules | `(tactic| walk_at "nq") => `(tactic| with_reducible first
  | assumption
  | (apply Ne.symm; assumption))
local macro_rules | `(tactic| walk_at "hp") => `(tactic| with_reducible first
  | assumption
  | exact upd_same
  | (refine Eq.trans (upd_ne ?_) ?_; (with_reducible walk_at "nq"); (with_reducible walk_at "hp")))
local macro_rules | `(tactic| walk_at "sm") => `(tactic| with_reducible first
  | assumption
  | exact Same.refl _
  | exact But.refl _ _
  | (refine sm_nw ?_ ?_; rotate_left; (with_reducible assumption); walk_at "sm")
  | (refine But.nw ?_ ?_; rotate_left; (with_reducible assumption); walk_at "sm")
  | (refine sm_own ?_ ?_; rotate_left; (with_reducible assumption); walk_at "sm")
  | (refine But.own ?_ ?_; rotate_left; (with_reducible assumption); walk_at "sm")
  | (refine But.wr ?_; walk_at "sm"))

section
variable {P : Program} {w : World} {K : PySem.W.Frag} {mg : Str → Option Value} {base : Heap}
theorem c_modulus (D : DefAt K mg "_law_modulus" s__law_modulus) (T : Txt K mg)
    (c__law_draw : Cal P w K mg base 1 "_law_draw" ["pen", "many"] sp_draw)
    (c__law_pick : Cal P w K mg base 2 "_law_pick" ["pen", "some"] (sp_pick K))
    (c__law_shuffled : Cal P w K mg base 2 "_law_shuffled" ["pen", "some"] (sp_shuffled K)) :
    Cal P w K mg base 3 "_law_modulus" ["pen", "most"] sp_modulus := by
  refine cal_mk D sc__law_modulus (fun _ _ _ _ _ _ _ us hl => match us, hl with | [_, _], _ => rfl)
    (fun vs H Q E h => ?_) (fun f cdv A outer s H vs Q hgu hr h => ?_)
  · obtain ⟨p, L, n, most, rfl, _⟩ := h; rfl
  · obtain ⟨p, L, n, most, rfl, hp, hn, hm2, hm9, k⟩ := h
    refine ⟨_,
      (pss_cons (ps_par (i := 2) (j := 3) (by rfl) sc__law_modulus.nd rfl rfl (by decide) rfl rfl (pa_cons pe_int (pa_cons (pe_op op_cat (pe_slice sl_list (pe_cal c__law_shuffled hgu (hr.mono (by decide)) (pa_cons (pv 0) (pa_cons (pe_lst (pa_cons pe_int (pa_cons pe_int (pa_cons pe_int (pa_cons pe_int (pa_cons pe_int (pa_cons pe_int pa_nil))))))) pa_nil))) po_none (po_some (pe_op op_add pe_int (pe_cal c__law_draw hgu (hr.mono (by decide)) (pa_cons (pv 0) (pa_cons pe_int pa_nil)))))) (pe_lst (pa_cons pe_int pa_nil))) pa_nil)) (by rfl))
      (pss_cons (ps_for PassesOwn.never rfl (pi_range1 (by rfl) T.f_range (pa_cons (pe_op op_add pe_int (pe_cal c__law_draw hgu (hr.mono (by decide)) (pa_cons (pv 0) (pa_cons pe_int pa_nil)))) pa_nil)) (pg_name (i := 4) sc__law_modulus.nd rfl (Or.inl rfl))
        (pss_cons (ps_set (i := 5) sc__law_modulus.nd rfl (Or.inl rfl) (pe_cal c__law_pick hgu (hr.mono (by decide)) (pa_cons (pv 0) (pa_cons (pv 3) pa_nil))))
        (pss_one (ps_if (pt_cmpR op_le (pe_op op_mul (pv 2) (pv 5)) (pv 1) (nomark _)) (pss_one (ps_set (i := 2) sc__law_modulus.nd rfl (Or.inl rfl) (pe_op op_mul (pv 2) (pv 5)))) pss_nil))))
      (pss_one (ps_ret (pe_ifExp (pt_cmpR op_gt (pv 2) pe_int (nomark _)) (pv 2) pe_int)))))
      , ?_⟩
    refine ⟨_, rfl, (by show 6 ≤ sizeLine; decide), fun l hl => ?_⟩
    refine ⟨p, L, l, n, [2, 3, 5, 7, 11, 13], rfl, hp.new hl, by show n + 6 ≤ _; omega, SqL.of upd_same, by decide, ?_⟩
    intro H1 l1 ms b1 pn1 f1 g1 hpm
    have b1' : But p H H1 := (But.new hl).trans b1
    refine ⟨_, rfl, p, L, _, 3, rfl, pn1, by show n + 6 ≤ _; omega, by decide, by decide, ?_⟩
    intro H2 d b2 pn2 d0 d1
    have n1 : l1 ≠ p := pn1.ne_l g1
    have g2 := b2 _ _ n1 g1
    refine ⟨_, _, rfl, rfl, _, rfl, l1, _, rfl, SqL.of g2, fun q hq => ?_⟩
    refine ⟨(by show 1 ≤ sizeLine; decide), fun r hr2 => ?_⟩
    have hlen : ms.length = 6 := by rw [hpm.length_eq]; rfl
    have nqr : q ≠ r := ne_of_none upd_same hr2
    refine ⟨q, r, _, _, rfl, rfl, (by walk_at "hp"), upd_same, ?_, fun z hz => ?_⟩
    · have h1 := cutV_length (ms.map V.int) none (some (1 + d))
      rw [List.length_map] at h1
      exact Nat.le_trans (show (cutV (ms.map V.int) none (some (1 + d))).length + 1 ≤ 1000 by omega) (by decide)
    refine ⟨_, _, rfl, ?_⟩
    -- the primes to pick from
    have hmem : ∀ v ∈ cutV (ms.map V.int) none (some (1 + d)) ++ [V.int 2], ∃ i, v = V.int i ∧ i ∈ ([2, 3, 5, 7, 11, 13] : List Int) := by
      intro v hv
      rcases List.mem_append.mp hv with hv | hv
      · obtain ⟨i, hi, rfl⟩ := List.mem_map.mp (mem_cut hv)
        exact ⟨i, rfl, hpm.mem_iff.mp hi⟩
      · exact ⟨2, List.mem_singleton.mp hv, by simp⟩
    have hpl : 0 < (cutV (ms.map V.int) none (some (1 + d)) ++ [V.int 2]).length := by simp
    have hpl2 : (cutV (ms.map V.int) none (some (1 + d)) ++ [V.int 2]).length ≤ 1000000 := by
      have h1 := cutV_length (ms.map V.int) none (some (1 + d))
      rw [List.length_map] at h1
      rw [List.length_append, List.length_singleton]
      omega
    generalize hps : cutV (ms.map V.int) none (some (1 + d)) ++ [V.int 2] = ps at hmem hpl hpl2 hz ⊢
    have b3 : But p H (upd (upd (upd H2 q (.lst (cutV (ms.map V.int) none (some (1 + d))))) r (.lst [.int 2])) z (.lst ps)) :=
      (((b1'.trans b2).nw hq).nw hr2).nw hz
    have pn3 := ((pn2.new (o := .lst (cutV (ms.map V.int) none (some (1 + d)))) hq).new (o := .lst [.int 2]) hr2).new (o := .lst ps) hz
    have g3 : (upd (upd (upd H2 q (.lst (cutV (ms.map V.int) none (some (1 + d))))) r (.lst [.int 2])) z (.lst ps)) z = some (.lst ps) := upd_same
    generalize upd (upd (upd H2 q (.lst (cutV (ms.map V.int) none (some (1 + d))))) r (.lst [.int 2])) z (.lst ps) = H3 at b3 pn3 g3 ⊢
    clear hz hps hr2 hq
    have nzp : z ≠ p := pn3.ne_l g3
    refine ⟨_, rfl, p, L, _, 12, rfl, pn3, by show n + 6 + 1 ≤ _; omega, by decide, by decide, ?_⟩
    intro H4 e b4 pn4 e0 e1
    have g4 := b4 _ _ nzp g3
    refine ⟨_, _, rfl, rfl, _, rfl, by omega, by omega, for_range (n := (1 + e).toNat)
      (fun i σ' H' => ∃ (m : Int) (kk pp : Option V), σ' = [some (.ref p), some (.int most), some (.int m), some (.ref z), kk, pp] ∧ But p H H' ∧
        PenAt H' p L (n + 8 + i) ∧ H' z = some (.lst ps) ∧ 1 ≤ m ∧ (m = 1 ∨ 2 ≤ m) ∧ m ≤ most ∧ Sm m) ?_ ?_ ?_⟩
    · exact ⟨1, none, none, rfl, b3.trans b4, pn4, g4, by decide, .inl rfl, by omega, .one⟩
    · rintro i σ' H' hi ⟨m, kk, pp, rfl, c1, c2, c3, c4, c5, c6, c7⟩
      refine ⟨_, rfl, _, rfl, p, L, z, _, ps, rfl, c2, by omega, .inl (SqL.of c3), nzp, hpl, hpl2, ?_⟩
      intro H5 v b5 pn5 hv
      obtain ⟨q', rfl, hq'⟩ := hmem v hv
      have hq2 := p13 hq'
      have c3' := b5 _ _ nzp c3
      refine ⟨_, rfl, _, rfl, _, _, rfl, rfl, .inl ⟨by omega, by omega⟩, _, rfl, _, _, rfl, rfl, _, rfl, ite2 (fun c => ?_) (fun c => ?_)⟩
      · have c' : m * q' ≤ most := of_decide_eq_true c
        have hge : 2 ≤ m * q' := by
          have := Int.mul_le_mul c4 hq2.1 (by decide) (by omega)
          omega
        refine ⟨_, rfl, _, rfl, _, _, rfl, rfl, .inl ⟨by omega, by omega⟩, ?_⟩
        exact ⟨m * q', _, _, rfl, c1.trans b5, pn5.mono (by omega), c3', by omega, .inr hge, c', .mul c7 hq'⟩
      · exact ⟨m, _, _, rfl, c1.trans b5, pn5.mono (by omega), c3', c4, c5, c6, c7⟩
    · rintro σ' H' ⟨m, kk, pp, rfl, c1, c2, c3, c4, c5, c6, c7⟩
      have pnE : PenAt H' p L (n + 20) := c2.mono (by omega)
      refine ⟨_, rfl, _, _, rfl, rfl, _, rfl, ite2 (fun c => ?_) (fun c => ?_)⟩
      · have c' : 1 < m := of_decide_eq_true c
        exact ⟨_, rfl, k _ _ c1 pnE (by omega) c6 c7⟩
      · exact k _ _ c1 pnE (by decide) hm2 sm2
end
end Vg

set_option Elab.async false
set_option linter.all false
set_option maxRecDepth 100000
set_option maxHeartbeats 2000000
namespace Vg
open PySem PySem.Spec PyProof.Rows L2
-- a ≠ b; a place of a heap; what is kept
local macro_rules | `(tactic| walk_at "nq") => `(tactic| with_reducible first
  | assumption
  | (apply Ne.symm; assumption))
local macro_rules | `(tactic| walk_at "hp") => `(tactic| with_reducible first
  | assumption
  | exact upd_same
  | (refine Eq.trans (upd_ne ?_) ?_; (with_reducible walk_at "nq"); (with_reducible walk_at "hp")))
local macro_rules | `(tactic| walk_at "sm") => `(tactic| with_reducible first
  | assumption
  | exact Same.refl _
  | exact But.refl _ _
  | (refine sm_nw ?_ ?_; rotate_left; (with_reducible assumption); walk_at "sm")
  | (refine But.nw ?_ ?_; rotate_left; (with_reducible assumption); walk_at "sm")
  | (refine sm_own ?_ ?_; rotate_left; (with_reducible assumption); walk_at "sm")
  | (refine But.own ?_ ?_; rotate_left; (with_reducible assumption); walk_at "sm")
  | (refine But.wr ?_; walk_at "sm"))

section
variable {P : Program} {w : World} {K : PySem.W.Frag} {mg : Str → Option Value} {base : Heap}
theorem c_lgcd (D : DefAt K mg "_law_gcd" s__law_gcd) (T : Txt K mg) :
    Cal P w K mg base 1 "_law_gcd" ["one", "other"] sp_lgcd := by
  refine cal_mk D sc__law_gcd (fun _ _ _ _ _ _ _ us hl => match us, hl with | [_, _], _ => rfl)
    (fun vs H Q E h => ?_) (fun f cdv A outer s H vs Q hgu hr h => ?_)
  · obtain ⟨a, b, rfl, _⟩ := h; rfl
  · obtain ⟨a, b, rfl, ha, hb, k⟩ := h
    refine ⟨_,
      (pss_cons (ps_while PassesOwn.never (pt_cmpR op_ne (pv 1) pe_int (nomark _))
        (pss_one (ps_par (i := 0) (j := 1) (by rfl) sc__law_gcd.nd rfl rfl (by decide) rfl rfl (pa_cons (pv 1) (pa_cons (pe_op op_modN (pv 0) (pv 1)) pa_nil)) (by rfl))))
      (pss_one (ps_ret (pe_callB call_abs (by rfl) T.f_abs (by decide +kernel) (pa_cons (pv 0) pa_nil)))))
      , ?_⟩
    refine ⟨fun j σ' H' => ∃ x y : Int, σ' = [some (.int x), some (.int y)] ∧ j = y.toNat ∧ H' = H ∧ 0 ≤ x ∧ 0 ≤ y ∧ gcdI x y = gcdI a b,
      ⟨_, a, b, rfl, rfl, rfl, ha, hb, rfl⟩, ?_⟩
    rintro j σ' H' ⟨x, y, rfl, rfl, rfl, hx, hy, e⟩
    refine ⟨_, rfl, rfl, _, rfl, ?_⟩
    rw [dp1]
    by_cases c : y = 0
    · rw [decide_eq_true c]
      subst c
      rw [gcd_end hx] at e
      refine iteF ⟨_, rfl, _, rfl, ?_⟩
      rw [if_neg (by omega), e]
      exact k
    · rw [decide_eq_false c]
      have b1 := fmod_b (a := x) (b := y) (by omega)
      refine iteT ⟨_, fun _ _ z => z, ?_⟩
      refine ⟨_, rfl, _, rfl, _, rfl, _, _, rfl, rfl, c, _, _, rfl, ?_⟩
      exact ⟨_, by omega, y, x.fmod y, rfl, rfl, rfl, hy, b1.1, by rw [gcd_step hx (by omega)]; exact e⟩
theorem c_divisors (D : DefAt K mg "_law_divisors" s__law_divisors) (T : Txt K mg) :
    Cal P w K mg base 1 "_law_divisors" ["m"] sp_divisors := by
  refine cal_mk D sc__law_divisors (fun _ _ _ _ _ _ _ us hl => match us, hl with | [_], _ => rfl)
    (fun vs H Q E h => ?_) (fun f cdv A outer s H vs Q hgu hr h => ?_)
  · obtain ⟨m, rfl, _⟩ := h; rfl
  · obtain ⟨m, rfl, hm1, hm9, k⟩ := h
    refine ⟨_,
      (pss_cons (ps_par (i := 1) (j := 2) (by rfl) sc__law_divisors.nd rfl rfl (by decide) rfl rfl (pa_cons (pe_lst (pa_cons pe_int pa_nil)) (pa_cons (pv 0) pa_nil)) (by rfl))
      (pss_cons (ps_for PassesOwn.never rfl (pi_tup (pe_tup (pa_cons pe_int (pa_cons pe_int (pa_cons pe_int (pa_cons pe_int (pa_cons pe_int (pa_cons pe_int pa_nil)))))))) (pg_name (i := 3) sc__law_divisors.nd rfl (Or.inl rfl))
        (pss_cons (ps_set (i := 4) sc__law_divisors.nd rfl (Or.inl rfl) (pe_lst (pa_cons pe_int pa_nil)))
        (pss_cons (ps_while PassesOwn.never (pt_cmpR op_eq (pe_op op_modN (pv 2) (pv 3)) pe_int (nomark _))
          (pss_cons (ps_set (i := 2) sc__law_divisors.nd rfl (Or.inl rfl) (pe_op op_fdivN (pv 2) (pv 3)))
          (pss_one (ps_expr (pe_bm PySem.F.plainAttrs_list PySem.F.slot_list_append PySem.F.type_list_append mt_append (pv 4) (pa_cons (pe_op op_mul (pe_ix ix_list (pv 4) (pe_un un_neg pe_int) (fun _ _ => rfl)) (pv 3)) pa_nil))))))
        (pss_cons (ps_set (i := 5) sc__law_divisors.nd rfl (Or.inl rfl) (pe_lst pa_nil))
        (pss_cons (ps_for PassesOwn.never rfl (pi_list (pv 4)) (pg_name (i := 6) sc__law_divisors.nd rfl (Or.inr rfl))
          (pss_one (ps_expr (pe_bm PySem.F.plainAttrs_list PySem.F.slot_list_extend PySem.F.type_list_extend mt_extend (pv 5) (pa_cons (pe_lc (own := [("one", 7)]) (g := gName 7) (by rfl) sc__law_divisors.nd (pi_list (pv 1)) (blkOk_by (own := [("one", 7)]) (N := ["m", "found", "left", "prime", "powers", "every", "factor", "one"]) (sc := defScope s__law_divisors) (by decide +kernel)) (fun _ _ _ _ _ => pg_name (i := 7) sc__law_divisors.nd rfl (Or.inl rfl)) (fun _ _ _ _ _ => pts_nil) (fun _ _ _ _ _ => (pe_op op_mul (pv 7) (pv 6)))) pa_nil)))))
        (pss_one (ps_set (i := 1) sc__law_divisors.nd rfl (Or.inl rfl) (pv 5))))))))
      (pss_one (ps_ret (pe_callB cr_sortedI (by rfl) T.f_sorted (by decide +kernel) (pa_cons (pv 1) pa_nil))))))
      , ?_⟩
    refine ⟨(by show 1 ≤ sizeLine; decide), fun l hl => ?_⟩
    refine ⟨_, rfl, _, _, rfl, ?_⟩
    refine ⟨(by show 6 ≤ sizeLine; decide), fun t ht => ?_⟩
    have nlt : l ≠ t := ne_of_none upd_same ht
    refine ⟨t, rfl, ⟨_, SqT.of upd_same⟩, for_tup (K := K) (a := t) (xs := [V.int 2, .int 3, .int 5, .int 7, .int 11, .int 13])
      (fun i σ' H' => ∃ (l : Addr) (ds : List Int) (x : Int) (o1 o2 o3 o4 o5 : Option V), σ' = [some (.int m), some (.ref l), some (.int x), o1, o2, o3, o4, o5] ∧ Same H H' ∧
        H' l = some (.lst (ds.map V.int)) ∧ H' t = some (.tup [V.int 2, .int 3, .int 5, .int 7, .int 11, .int 13]) ∧ Dv m i ds x) ?_ ?_ ?_ ?_⟩
    · exact ⟨l, [1], m, none, none, none, none, none, rfl, by walk_at "sm", (upd_ne nlt).trans upd_same, upd_same, Dv.start hm1⟩
    · rintro i σ' H' _ ⟨l, ds, x, o1, o2, o3, o4, o5, rfl, a1, a2, a3, a4⟩
      exact SqT.of a3
    · rintro i v σ' H' hi ⟨l, ds, x0, o1, o2, o3, o4, o5, rfl, a1, a2, a3, a4⟩
      obtain ⟨q, rfl, hq2, hq13⟩ := p6v hi
      have hi6 : i < 6 := (List.getElem?_eq_some_iff.mp hi).1
      refine ⟨(by show 1 ≤ sizeLine; decide), fun pw hpw => ?_⟩
      have Hpw : H pw = none := a1.free hpw
      have nlpw : l ≠ pw := ne_of_none a2 hpw
      have ntpw : t ≠ pw := ne_of_none a3 hpw
      refine ⟨fun j σ2 H2 => ∃ (ps : List Int) (x : Int), σ2 = [some (.int m), some (.ref l), some (.int x), some (.int q), some (.ref pw), o3, o4, o5] ∧ j = x.toNat ∧ Same H H2 ∧
        H2 pw = some (.lst (ps.map V.int)) ∧ H2 l = some (.lst (ds.map V.int)) ∧ H2 t = some (.tup [V.int 2, .int 3, .int 5, .int 7, .int 11, .int 13]) ∧ Pw q x0 ps x,
        ⟨_, [1], x0, rfl, rfl, by walk_at "sm", upd_same, (upd_ne nlpw).trans a2, (upd_ne ntpw).trans a3, Pw.start a4.pos⟩, ?_⟩
      rintro j σ2 H2 ⟨ps, x, rfl, rfl, b1, b2, b3, b4, b5⟩
      obtain ⟨ini, last, rfl, e1, e2, e3⟩ := b5.ex
      have x0m := a4.le
      have sh : ini.length ≤ 30 ∧ last ≤ 1000000000 := by
        refine short_way e2 ?_ b5.pos e1 (by omega)
        rw [e3]
        have hh : ∀ n : Nat, 2 ^ n ≤ (q ^ n).toNat := by
          intro n
          have : ((2 : Nat) ^ n : Int) ≤ q ^ n := by
            induction n with
            | zero => simp
            | succ n ih =>
              rw [Int.pow_succ, Int.pow_succ]
              have h0 : (0 : Int) ≤ 2 ^ n := Int.pow_nonneg (by decide)
              exact Int.mul_le_mul ih hq2 (by decide) (Int.le_trans h0 ih)
          have e4 : (((2 : Nat) ^ n : Nat) : Int) = ((2 : Nat) : Int) ^ n := Int.natCast_pow 2 n
          omega
        exact hh _
      refine ⟨_, rfl, _, rfl, _, _, rfl, rfl, (by show q ≠ 0; omega), rfl, _, rfl, ?_⟩
      rw [dp1, Int.fmod_eq_emod_of_nonneg _ (by omega)]
      refine ite2 (fun c => ?_) (fun c => ?_)
      · have c' : x % q = 0 := of_decide_eq_true c
        have dt := div_turn b5.pos hq2 c'
        have hlt : x / q < x := Int.ediv_lt_self_of_pos_of_ne_one b5.pos (by omega)
        have b6 := b5.turn rfl hq2 c'
        have ed : x.fdiv q = x / q := Int.fdiv_eq_ediv_of_nonneg _ (by omega)
        refine ⟨_, fun _ _ z => z, ?_⟩
        refine ⟨_, rfl, _, rfl, _, _, rfl, rfl, ⟨by omega, by omega⟩, ?_⟩
        refine ⟨_, rfl, .inl ⟨rfl, _, SqL.of b2⟩, _, rfl, _, rfl, pw, _, _, _, rfl, rfl, SqL.of b2, at_lst, _, rfl, _, _, rfl, rfl, .inl ⟨by omega, by omega⟩, pw, _, _, rfl, rfl, b2, ?_, ?_⟩
        · rw [List.length_map, List.length_append, List.length_singleton]
          exact Nat.lt_of_lt_of_le (show ini.length + 1 < 1000 by omega) (by decide)
        · refine ⟨_, by rw [ed]; omega, ini ++ [last] ++ [last * q], x.fdiv q, rfl, rfl, ?_, ?_, (upd_ne nlpw).trans b3, (upd_ne ntpw).trans b4, by rw [ed]; exact b6⟩
          · walk_at "sm"
          · rw [map_snoc (ini ++ [last]) (last * q)]; exact upd_same
      · -- every product
        clear c
        refine ⟨Nat.zero_le _, fun ev hev => ?_⟩
        have Hev : H ev = none := b1.free hev
        have nlev : l ≠ ev := ne_of_none b3 hev
        have ntev : t ≠ ev := ne_of_none b4 hev
        have npev : pw ≠ ev := ne_of_none b2 hev
        have hds := a4.short (by omega) hm9
        refine ⟨_, rfl, pw, rfl, ⟨_, SqL.of ((upd_ne npev).trans b2)⟩, for_list (K := K) (a := pw) (xs := (ini ++ [last]).map V.int)
          (fun j σ3 H3 => ∃ (es : List Int) (o6 o7 : Option V), σ3 = [some (.int m), some (.ref l), some (.int x), some (.int q), some (.ref pw), some (.ref ev), o6, o7] ∧ Same H H3 ∧
            H3 ev = some (.lst (es.map V.int)) ∧ H3 pw = some (.lst ((ini ++ [last]).map V.int)) ∧ H3 l = some (.lst (ds.map V.int)) ∧ H3 t = some (.tup [V.int 2, .int 3, .int 5, .int 7, .int 11, .int 13]) ∧
            es.length = j * ds.length ∧ ∀ e ∈ es, ∃ d ∈ ds, ∃ f ∈ (ini ++ [last]), e = d * f) ?_ ?_ ?_ ?_⟩
        · exact ⟨[], _, _, rfl, by walk_at "sm", upd_same, (upd_ne npev).trans b2, (upd_ne nlev).trans b3, (upd_ne ntev).trans b4, by simp, by simp⟩
        · rintro j σ3 H3 _ ⟨es, o6, o7, rfl, g1, g2, g3, g4, g5, g6, g7⟩
          exact SqL.of g3
        · rintro j v σ3 H3 hj ⟨es, o6, o7, rfl, g1, g2, g3, g4, g5, g6, g7⟩
          have hjl : j < ini.length + 1 := by
            have := (List.getElem?_eq_some_iff.mp hj).1
            rw [List.length_map, List.length_append, List.length_singleton] at this
            exact this
          obtain ⟨fv, hfm, rfl⟩ : ∃ fv, fv ∈ (ini ++ [last]) ∧ v = V.int fv := by
            rw [List.getElem?_map] at hj
            cases hx : (ini ++ [last])[j]? with
            | none => rw [hx] at hj; cases hj
            | some z =>
              rw [hx] at hj
              exact ⟨z, List.mem_of_getElem? hx, (Option.some.inj hj).symm⟩
          have hfb := b5.dv fv hfm
          have hf9 : fv ≤ 1000000000 := by
            have h1 := dv_le hfb.2 a4.pos
            have h2 := Int.mul_le_mul_of_nonneg_left (show 1 ≤ x from b5.pos) (show 0 ≤ fv by omega)
            omega
          refine ⟨_, rfl, .inl ⟨rfl, _, SqL.of g2⟩, ?_⟩
          refine ⟨_, rfl, l, rfl, ⟨_, SqL.of g4⟩, fun D hD => lc_list (K := K) (a := l) (xs := ds.map V.int)
            (fun i H4 => ∃ done : List Int, Same H3 H4 ∧ H4 D = some (.lst (done.map V.int)) ∧ done.length = i ∧ ∀ e ∈ done, ∃ d ∈ ds, ∃ f ∈ (ini ++ [last]), e = d * f) ?_ ?_ ?_ ?_⟩
          · exact ⟨[], sm_new hD, upd_same, rfl, by simp⟩
          · rintro i4 H4 _ ⟨done, f1, f2, f3, f4⟩
            exact SqL.of (f1 _ _ g4)
          · rintro i4 v4 H4 hi4 ⟨done, f1, f2, f3, f4⟩
            obtain ⟨dv, hdm, rfl⟩ : ∃ dv, dv ∈ ds ∧ v4 = V.int dv := by
              rw [List.getElem?_map] at hi4
              cases hx : ds[i4]? with
              | none => rw [hx] at hi4; cases hi4
              | some z =>
                rw [hx] at hi4
                exact ⟨z, List.mem_of_getElem? hx, (Option.some.inj hi4).symm⟩
            have hdb := a4.dv dv hdm
            have hd4 : i4 < ds.length := by
              have := (List.getElem?_eq_some_iff.mp hi4).1
              rw [List.length_map] at this
              exact this
            refine ⟨rfl, _, rfl, _, rfl, _, _, rfl, rfl, .inr ⟨by omega, by omega⟩, _, f2, ?_, done ++ [dv * fv], ?_, ?_, ?_, ?_⟩
            · rw [List.length_map]
              exact Nat.lt_of_lt_of_le (show done.length < 1000000 by omega) (by decide)
            · exact sm_own f1 hD
            · rw [map_snoc]; exact upd_same
            · rw [List.length_append, List.length_singleton, f3]
            · intro e he
              rcases List.mem_append.mp he with he | he
              · exact f4 e he
              · have := List.mem_singleton.mp he
                exact ⟨dv, hdm, fv, hfm, this⟩
          · rintro H4 ⟨done, f1, f2, f3, f4⟩
            have f3' : done.length = ds.length := by rw [f3, List.length_map]
            refine ⟨ev, D, _, _, rfl, rfl, f1 _ _ g2, f2, ?_, ?_⟩
            · rw [List.length_map, List.length_map, g6, f3']
              have h1 : j * ds.length + ds.length ≤ 31 * 400000 := by
                have := Nat.mul_le_mul (show j ≤ 30 by omega) hds
                omega
              exact Nat.le_trans h1 (by decide)
            · refine ⟨es ++ done, _, _, rfl, ?_, ?_, ?_, ?_, ?_, ?_, ?_⟩
              · exact sm_own (g1.trans f1) Hev
              · rw [List.map_append]; exact upd_same
              · exact (upd_ne npev).trans (f1 _ _ g3)
              · exact (upd_ne nlev).trans (f1 _ _ g4)
              · exact (upd_ne ntev).trans (f1 _ _ g5)
              · rw [List.length_append, g6, f3', Nat.add_mul, Nat.one_mul]
              · intro e he
                rcases List.mem_append.mp he with he | he
                · exact g7 e he
                · exact f4 e he
        · rintro σ3 H3 ⟨es, o6, o7, rfl, g1, g2, g3, g4, g5, g6, g7⟩
          refine ⟨_, rfl, ?_⟩
          rw [List.length_map] at g6
          exact ⟨ev, es, x, _, _, _, _, _, rfl, g1, g2, g5, a4.step b5 hq2 g6 g7⟩
    · rintro σ' H' ⟨l, ds, x, o1, o2, o3, o4, o5, rfl, a1, a2, a3, a4⟩
      refine ⟨_, rfl, l, ds, rfl, SqL.of a2, ?_⟩
      intro ns q hpm _ hq
      refine k _ q ns (sm_nw a1 hq) (a1.free hq) upd_same ?_ ?_ ?_
      · rw [hpm.length_eq]; exact a4.ne
      · rw [hpm.length_eq]; exact a4.short (by decide) hm9
      · intro d hd
        obtain ⟨c1, c2⟩ := a4.dv d (hpm.mem_iff.mp hd)
        have hdm : d ∣ m := Int.dvd_trans (Int.dvd_mul_right d x) c2
        exact ⟨c1, hdm, dv_le hdm (by omega)⟩
end
end Vg

set_option Elab.async false
set_option linter.all false
set_option maxRecDepth 100000
set_option maxHeartbeats 2000000
namespace Vg
open PySem PySem.Spec PyProof.Rows L2
-- a ≠ b; a place of a heap; what is kept
local macro_rules | `(tactic| walk_at "nq") => `(tactic| with_reducible first
  | assumption
  | (apply Ne.symm; assumption))
local macro_rules | `(tactic| walk_at "hp") => `(tactic| with_reducible first
  | assumption
  | exact upd_same
  | (refine Eq.trans (upd_ne ?_) ?_; (with_reducible walk_at "nq"); (with_reducible walk_at "hp")))
local macro_rules | `(tactic| walk_at "sm") => `(tactic| with_reducible first
  | assumption
  | exact Same.refl _
  | exact But.refl _ _
  | (refine sm_nw ?_ ?_; rotate_left; (with_reducible assumption); walk_at "sm")
  | (refine But.nw ?_ ?_; rotate_left; (with_reducible assumption); walk_at "sm")
  | (refine sm_own ?_ ?_; rotate_left; (with_reducible assumption); walk_at "sm")
  | (refine But.own ?_ ?_; rotate_left; (with_reducible assumption); walk_at "sm")
  | (refine But.wr ?_; walk_at "sm"))

section
variable {P : Program} {w : World} {K : PySem.W.Frag} {mg : Str → Option Value} {base : Heap}
theorem c_unit (D : DefAt K mg "_law_unit" s__law_unit) (T : Txt K mg)
    (c__law_draw : Cal P w K mg base 1 "_law_draw" ["pen", "many"] sp_draw)
    (c__law_pick : Cal P w K mg base 2 "_law_pick" ["pen", "some"] (sp_pick K))
    (c__law_gcd : Cal P w K mg base 1 "_law_gcd" ["one", "other"] sp_lgcd)
    (c__law_divisors : Cal P w K mg base 1 "_law_divisors" ["m"] sp_divisors) :
    Cal P w K mg base 3 "_law_unit" ["pen", "m"] sp_unit := by
  refine cal_mk D sc__law_unit (fun _ _ _ _ _ _ _ us hl => match us, hl with | [_, _], _ => rfl)
    (fun vs H Q E h => ?_) (fun f cdv A outer s H vs Q hgu hr h => ?_)
  · obtain ⟨p, L, n, m, rfl, _⟩ := h; rfl
  · obtain ⟨p, L, n, m, rfl, hp, hn, hm2, hm9, k⟩ := h
    refine ⟨_,
      (pss_cons (ps_set (i := 2) sc__law_unit.nd rfl (Or.inl rfl) (pe_cal c__law_pick hgu (hr.mono (by decide)) (pa_cons (pv 0) (pa_cons (pe_cal c__law_divisors hgu (hr.mono (by decide)) (pa_cons (pv 1) pa_nil)) pa_nil))))
      (pss_cons (ps_set (i := 3) sc__law_unit.nd rfl (Or.inl rfl) (pe_op op_mul (pv 2) (pe_cal c__law_draw hgu (hr.mono (by decide)) (pa_cons (pv 0) (pa_cons (pv 1) pa_nil)))))
      (pss_cons (ps_set (i := 4) sc__law_unit.nd rfl (Or.inl rfl) (pe_op op_modN (pe_cal c__law_pick hgu (hr.mono (by decide)) (pa_cons (pv 0) (pa_cons (pe_lst (pa_cons pe_int (pa_cons (pe_op op_sub (pv 1) pe_int) (pa_cons (pe_op op_add pe_int (pv 3)) (pa_cons (pe_op op_add (pe_op op_sub (pv 1) pe_int) (pv 3)) (pa_cons (pe_cal c__law_draw hgu (hr.mono (by decide)) (pa_cons (pv 0) (pa_cons (pv 1) pa_nil))) pa_nil)))))) pa_nil))) (pv 1)))
      (pss_cons (ps_while PassesOwn.never (pt_cmpR op_ne (pe_cal c__law_gcd hgu (hr.mono (by decide)) (pa_cons (pv 4) (pa_cons (pv 1) pa_nil))) pe_int (nomark _))
        (pss_one (ps_set (i := 4) sc__law_unit.nd rfl (Or.inl rfl) (pe_op op_modN (pe_op op_add (pv 4) pe_int) (pv 1)))))
      (pss_one (ps_ret (pv 4)))))))
      , ?_⟩
    refine ⟨_, rfl, _, rfl, m, rfl, by omega, hm9, ?_⟩
    intro H1 l ds s1 l0 g1 e1 e2 e3
    have pn1 := hp.same s1
    refine ⟨p, L, l, n, _, rfl, pn1, by omega, .inl (SqL.of g1), hp.ne_n l0, by rw [List.length_map]; exact e1, by rw [List.length_map]; omega, ?_⟩
    intro H2 v b2 pn2 hv
    obtain ⟨d, hd, rfl⟩ := List.mem_map.mp hv
    obtain ⟨d1, d2, d3⟩ := e3 d hd
    refine ⟨_, rfl, _, rfl, _, rfl, p, L, _, m, rfl, pn2, by omega, by omega, log_lt (by omega) (by omega), ?_⟩
    intro H3 r b3 pn3 r0 r1
    refine ⟨_, _, rfl, rfl, .inl ⟨by omega, by omega⟩, ?_⟩
    refine ⟨_, rfl, _, rfl, _, _, rfl, rfl, _, rfl, _, _, rfl, rfl, _, rfl, _, _, rfl, rfl, _, rfl, _, _, rfl, rfl, _, rfl, _, rfl, p, L, _, m, rfl, pn3, by omega, by omega, log_lt (by omega) (by omega), ?_⟩
    intro H4 r' b4 pn4 q0 q1
    refine ⟨(by show 5 ≤ sizeLine; decide), fun u hu => ?_⟩
    refine ⟨p, L, u, _, _, rfl, pn4.new hu, by omega, .inl (SqL.of upd_same), pn4.ne_n hu, by show 0 < 5; decide, by show 5 ≤ 1000000; decide, ?_⟩
    intro H5 v5 b5 pn5 hv5
    have hb : But p H H5 := ((((But.of s1).trans b2).trans b3).trans b4).trans ((But.new hu).trans b5)
    obtain ⟨z, rfl⟩ : ∃ z, v5 = V.int z := pick5v hv5 (fun e => ⟨_, e⟩) (fun e => ⟨_, e⟩) (fun e => ⟨_, e⟩) (fun e => ⟨_, e⟩) (fun e => ⟨_, e⟩)
    refine ⟨_, rfl, _, _, rfl, rfl, (by show m ≠ 0; omega), ?_⟩
    have zb := fmod_b (a := z) (b := m) (by omega)
    refine ⟨fun j σ' H' => ∃ x : Int, σ' = [some (.ref p), some (.int m), some (.int d), some (.int (d * r)), some (.int x)] ∧ j = far m x ∧ H' = H5 ∧ 0 ≤ x ∧ x < m,
      ⟨_, z.fmod m, rfl, rfl, rfl, zb.1, zb.2⟩, ?_⟩
    rintro j σ' H' ⟨x, rfl, rfl, rfl, x0, x1⟩
    refine ⟨_, rfl, _, rfl, x, m, rfl, x0, by omega, rfl, _, rfl, ?_⟩
    rw [dp1]
    by_cases c : gcdI x m = 1
    · rw [decide_eq_true c]
      exact iteF ⟨_, rfl, k _ _ hb pn5 ⟨x0, x1, c⟩⟩
    · rw [decide_eq_false c]
      have hx : x ≠ 1 := fun e => c (by rw [e]; exact gcd_one (by omega))
      have ft := far_turn hm2 x0 x1 hx
      refine iteT ⟨_, fun _ _ z => z, ?_⟩
      refine ⟨_, rfl, _, _, rfl, rfl, _, rfl, _, _, rfl, rfl, (by show m ≠ 0; omega), ?_⟩
      exact ⟨_, ft.1, _, rfl, rfl, rfl, ft.2.1, ft.2.2⟩
theorem c_lmap (D : DefAt K mg "_law_map" s__law_map) (T : Txt K mg)
    (c__law_draw : Cal P w K mg base 1 "_law_draw" ["pen", "many"] sp_draw)
    (c__law_pick : Cal P w K mg base 2 "_law_pick" ["pen", "some"] (sp_pick K))
    (c__law_unit : Cal P w K mg base 3 "_law_unit" ["pen", "m"] sp_unit)
    (c__law_divisors : Cal P w K mg base 1 "_law_divisors" ["m"] sp_divisors) :
    Cal P w K mg base 4 "_law_map" ["pen", "m"] sp_lmap := by
  refine cal_mk D sc__law_map (fun _ _ _ _ _ _ _ us hl => match us, hl with | [_, _], _ => rfl)
    (fun vs H Q E h => ?_) (fun f cdv A outer s H vs Q hgu hr h => ?_)
  · obtain ⟨p, L, n, m, rfl, _⟩ := h; rfl
  · obtain ⟨p, L, n, m, rfl, hp, hn, hm2, hm9, k⟩ := h
    refine ⟨_,
      (pss_cons (ps_set (i := 2) sc__law_map.nd rfl (Or.inl rfl) (pe_cal c__law_pick hgu (hr.mono (by decide)) (pa_cons (pv 0) (pa_cons (pe_cal c__law_divisors hgu (hr.mono (by decide)) (pa_cons (pv 1) pa_nil)) pa_nil))))
      (pss_one (ps_ret (pe_tup (pa_cons (pe_cal c__law_unit hgu (hr.mono (by decide)) (pa_cons (pv 0) (pa_cons (pv 1) pa_nil))) (pa_cons (pe_op op_modN (pe_op op_mul (pv 2) (pe_cal c__law_draw hgu (hr.mono (by decide)) (pa_cons (pv 0) (pa_cons (pv 1) pa_nil)))) (pv 1)) pa_nil))))))
      , ?_⟩
    refine ⟨_, rfl, _, rfl, m, rfl, by omega, hm9, ?_⟩
    intro H1 l ds s1 l0 g1 e1 e2 e3
    have pn1 := hp.same s1
    refine ⟨p, L, l, n, _, rfl, pn1, by omega, .inl (SqL.of g1), hp.ne_n l0, by rw [List.length_map]; exact e1, by rw [List.length_map]; omega, ?_⟩
    intro H2 v b2 pn2 hv
    obtain ⟨d, hd, rfl⟩ := List.mem_map.mp hv
    obtain ⟨d1, d2, d3⟩ := e3 d hd
    refine ⟨_, rfl, _, rfl, p, L, _, m, rfl, pn2, by omega, hm2, hm9, ?_⟩
    intro H3 u b3 pn3 hu
    refine ⟨_, rfl, _, rfl, _, rfl, p, L, _, m, rfl, pn3, by omega, by omega, log_lt (by omega) (by omega), ?_⟩
    intro H4 r b4 pn4 r0 r1
    refine ⟨_, _, rfl, rfl, .inl ⟨by omega, by omega⟩, _, rfl, _, _, rfl, rfl, (by show m ≠ 0; omega), (by show 2 ≤ sizeLine; decide), fun t ht => ?_⟩
    have zb := fmod_b (a := d * r) (b := m) (by omega)
    have hb : But p H H4 := (((But.of s1).trans b2).trans b3).trans b4
    exact k _ t u _ (hb.nw ht) ((pn4.new ht).mono (by omega)) hu zb.1 zb.2 (hb.free (pn4.ne_n ht) ht) upd_same
end
end Vg

set_option Elab.async false
set_option linter.all false
set_option maxRecDepth 100000
set_option maxHeartbeats 2000000
namespace Vg
open PySem PySem.Spec PyProof.Rows L2
-- a ≠ b; a place of a heap; what is kept
local macro_rules | `(tactic| walk_at "nq") => `(tactic| with_reducible first
  | assumption
  | (apply Ne.symm; assumption))
local macro_rules | `(tactic| walk_at "hp") => `(tactic| with_reducible first
  | assumption
  | exact upd_same
  | (refine Eq.trans (upd_ne ?_) ?_; (with_reducible walk_at "nq"); (with_reducible walk_at "hp")))
local macro_rules | `(tactic| walk_at "sm") => `(tactic| with_reducible first
  | assumption
  | exact Same.refl _
  | exact But.refl _ _
  | (refine sm_nw ?_ ?_; rotate_left; (with_reducible assumption); walk_at "sm")
  | (refine But.nw ?_ ?_; rotate_left; (with_reducible assumption); walk_at "sm")
  | (refine sm_own ?_ ?_; rotate_left; (with_reducible assumption); walk_at "sm")
  | (refine But.own ?_ ?_; rotate_left; (with_reducible assumption); walk_at "sm")
  | (refine But.wr ?_; walk_at "sm"))

section
variable {P : Program} {w : World} {K : PySem.W.Frag} {mg : Str → Option Value} {base : Heap}
theorem c_whole (D : DefAt K mg "is_whole" s_is_whole) (T : Txt K mg) :
    Cal P w K mg base 1 "is_whole" ["value"] (sp_whole K) := by
  refine cal_mk D sc_is_whole (fun _ _ _ _ _ _ _ us hl => match us, hl with | [_], _ => rfl)
    (fun vs H Q E h => ?_) (fun f cdv A outer s H vs Q hgu hr h => ?_)
  · obtain ⟨x, rfl, _⟩ := h; rfl
  · obtain ⟨x, rfl, ⟨t, bi, bb, ty, ki, kb, e⟩, k⟩ := h
    refine ⟨_,
      (pss_one (ps_ret (pe_and (pe_callB call_isi (by rfl) T.f_isinstance (by decide +kernel) (pa_cons (pv 0) (pa_cons (pe_ty (n := "int") (by rfl) T.f_int (by decide +kernel)) pa_nil))) (pe_one (pe_not (pe_callB call_isi (by rfl) T.f_isinstance (by decide +kernel) (pa_cons (pv 0) (pa_cons (pe_ty (n := "bool") (by rfl) T.f_bool (by decide +kernel)) pa_nil))))))))
      , ?_⟩
    refine ⟨_, rfl, x, _, t, _, bi, rfl, .ty "int", ty, ki, _, rfl, ?_⟩
    rw [← e] at k
    cases bi with
    | false => exact iteF k
    | true =>
      refine iteT ⟨_, rfl, x, _, t, _, bb, rfl, .ty "bool", ty, kb, _, rfl, ?_⟩
      exact k
theorem c_between (D : DefAt K mg "is_between" s_is_between) (T : Txt K mg)
    (c_is_whole : Cal P w K mg base 1 "is_whole" ["value"] (sp_whole K)) :
    Cal P w K mg base 2 "is_between" ["value", "low", "high"] (sp_between K) := by
  refine cal_mk D sc_is_between (fun _ _ _ _ _ _ _ us hl => match us, hl with | [_, _, _], _ => rfl)
    (fun vs H Q E h => ?_) (fun f cdv A outer s H vs Q hgu hr h => ?_)
  · obtain ⟨x, lo, hi, rfl, _⟩ := h; rfl
  · obtain ⟨x, lo, hi, rfl, kd, k⟩ := h
    refine ⟨_,
      (pss_one (ps_ret (pe_and (pe_cal c_is_whole hgu (hr.mono (by decide)) (pa_cons (pv 0) pa_nil)) (pe_one (pe_chain op_le op_le (pv 1) (pv 0) (pv 2))))))
      , ?_⟩
    refine ⟨_, rfl, x, rfl, kd, _, rfl, ?_⟩
    cases x with
    | int n =>
      refine iteT ⟨_, rfl, _, rfl, _, _, rfl, rfl, _, rfl, ite2 (fun c => ?_) (fun c => ?_)⟩
      · refine ⟨_, rfl, _, _, rfl, rfl, ?_⟩
        have e : betw (.int n) lo hi = decide (n ≤ hi) := by
          show (decide (lo ≤ n) && decide (n ≤ hi)) = _
          rw [c]; rfl
        rw [e] at k
        exact k
      · have e : betw (.int n) lo hi = false := by
          show (decide (lo ≤ n) && decide (n ≤ hi)) = _
          rw [Bool.eq_false_iff.mpr c]; rfl
        rw [e] at k
        exact k
    | _ => exact iteF k
end
end Vg

set_option Elab.async false
set_option linter.all false
set_option maxRecDepth 100000
set_option maxHeartbeats 2000000
namespace Vg
open PySem PySem.Spec PyProof.Rows L2
-- a ≠ b; a place of a heap; what is kept
local macro_rules | `(tactic| walk_at "nq") => `(tactic| with_reducible first
  | assumption
  | (apply Ne.symm; assumption))
local macro_rules | `(tactic| walk_at "hp") => `(tactic| with_reducible first
  | assumption
  | exact upd_same
  | (refine Eq.trans (upd_ne ?_) ?_; (with_reducible walk_at "nq"); (with_reducible walk_at "hp")))
local macro_rules | `(tactic| walk_at "sm") => `(tactic| with_reducible first
  | assumption
  | exact Same.refl _
  | exact But.refl _ _
  | (refine sm_nw ?_ ?_; rotate_left; (with_reducible assumption); walk_at "sm")
  | (refine But.nw ?_ ?_; rotate_left; (with_reducible assumption); walk_at "sm")
  | (refine sm_own ?_ ?_; rotate_left; (with_reducible assumption); walk_at "sm")
  | (refine But.own ?_ ?_; rotate_left; (with_reducible assumption); walk_at "sm")
  | (refine But.wr ?_; walk_at "sm"))

section
variable {P : Program} {w : World} {K : PySem.W.Frag} {mg : Str → Option Value} {base : Heap}
theorem c_ismap (D : DefAt K mg "is_map" s_is_map) (T : Txt K mg)
    (c_is_between : Cal P w K mg base 2 "is_between" ["value", "low", "high"] (sp_between K)) :
    Cal P w K mg base 3 "is_map" ["m", "value"] (sp_ismap K) := by
  refine cal_mk D sc_is_map (fun _ _ _ _ _ _ _ us hl => match us, hl with | [_, _], _ => rfl)
    (fun vs H Q E h => ?_) (fun f cdv A outer s H vs Q hgu hr h => ?_)
  · obtain ⟨m, v, b, rfl, _⟩ := h; rfl
  · obtain ⟨m, v, b, rfl, hm2, hm9, hv, k⟩ := h
    refine ⟨_,
      (pss_cons (ps_if (PW.pt (pw_or (pt_not (pt_val (pe_callB call_isi (by rfl) T.f_isinstance (by decide +kernel) (pa_cons (pv 1) (pa_cons (pe_ty (n := "tuple") (by rfl) T.f_tuple (by decide +kernel)) pa_nil))))) (pw_or1 (pt_cmpR op_ne (pe_callB call_len_seq (by rfl) T.f_len (by decide +kernel) (pa_cons (pv 1) pa_nil)) pe_int (nomark _))))) (pss_one (ps_ret pe_bl)) pss_nil)
      (pss_cons (ps_asg (pv 1) (pg_tup rfl (pgs_cons (pg_name (i := 2) sc_is_map.nd rfl (Or.inl rfl)) (pgs_cons (pg_name (i := 3) sc_is_map.nd rfl (Or.inl rfl)) pgs_nil))))
      (pss_one (ps_ret (pe_and (pe_cal c_is_between hgu (hr.mono (by decide)) (pa_cons (pv 2) (pa_cons pe_int (pa_cons (pe_op op_sub (pv 0) pe_int) pa_nil)))) (pe_and (pe_cal c_is_between hgu (hr.mono (by decide)) (pa_cons (pv 3) (pa_cons pe_int (pa_cons (pe_op op_sub (pv 0) pe_int) pa_nil)))) (pe_one (pe_cmpR op_eq (pe_callBfun cr_gcd (by rfl) T.h_gcd (pa_cons (pv 2) (pa_cons (pv 0) pa_nil))) pe_int (nomark _)))))))))
      , ?_⟩
    cases hv with
    | no ty kt =>
      refine ⟨_, rfl, v, _, _, _, false, rfl, .ty "tuple", ty, kt, _, rfl, ?_⟩
      exact iteT (iteT (k H (Same.refl _)))
    | len h n =>
      refine ⟨_, rfl, _, _, _, _, true, rfl, .ty "tuple", .base (.tup h), kit_ty (by decide +kernel), _, rfl, ?_⟩
      refine iteF ⟨_, rfl, _, _, rfl, .inr (SqT.of h), rfl, _, rfl, ?_⟩
      rw [dp1, decide_eq_false (by omega)]
      exact iteT (k H (Same.refl _))
    | two h kx ky =>
      rename_i a x y
      refine ⟨_, rfl, _, _, _, _, true, rfl, .ty "tuple", .base (.tup h), kit_ty (by decide +kernel), _, rfl, ?_⟩
      refine iteF ⟨_, rfl, _, _, rfl, .inr (SqT.of h), rfl, _, rfl, ?_⟩
      rw [dp1, decide_eq_true (show (([x, y].length : Nat) : Int) = 2 from rfl)]
      refine iteF ⟨_, rfl, a, _, rfl, SqT.of h, rfl, _, _, rfl, _, _, rfl, rfl, ?_⟩
      refine ⟨_, rfl, _, rfl, _, _, rfl, rfl, x, 0, m - 1, rfl, kx, _, rfl, ?_⟩
      have k0 := k H (Same.refl _)
      cases hx : betw x 0 (m - 1) with
      | false =>
        refine iteF ?_
        have e : mapXY m x y = false := by
          cases x with
          | int a =>
            cases y with
            | int b =>
              have z : (decide (0 ≤ a) && decide (a ≤ m - 1)) = false := hx
              show ((decide (0 ≤ a) && decide (a ≤ m - 1)) && _) = false
              rw [z]; rfl
            | _ => rfl
          | _ => rfl
        rw [e] at k0
        exact k0
      | true =>
        refine iteT ⟨_, rfl, _, rfl, _, _, rfl, rfl, y, 0, m - 1, rfl, ky, _, rfl, ?_⟩
        cases hy : betw y 0 (m - 1) with
        | false =>
          refine iteF ?_
          have e : mapXY m x y = false := by
            cases x with
            | int a =>
              cases y with
              | int b =>
                have z : (decide (0 ≤ b) && decide (b ≤ m - 1)) = false := hy
                show (_ && ((decide (0 ≤ b) && decide (b ≤ m - 1)) && _)) = false
                rw [z, Bool.false_and, Bool.and_false]
              | _ => rfl
            | _ => rfl
          rw [e] at k0
          exact k0
        | true =>
          cases x with
          | int a =>
            cases y with
            | int b =>
              refine iteT ⟨_, rfl, _, rfl, _, _, rfl, rfl, ?_⟩
              have z1 : (decide (0 ≤ a) && decide (a ≤ m - 1)) = true := hx
              have z2 : (decide (0 ≤ b) && decide (b ≤ m - 1)) = true := hy
              have e : mapXY m (.int a) (.int b) = decide (gcdI a m = 1) := by
                show ((decide (0 ≤ a) && decide (a ≤ m - 1)) && ((decide (0 ≤ b) && decide (b ≤ m - 1)) && decide (gcdI a m = 1))) = _
                rw [z1, z2]; rfl
              rw [e, ← dp1] at k0
              have ez : ((Nat.gcd a.natAbs m.natAbs : Nat) : Int) = gcdI a m := by
                have za := of_decide_eq_true (Bool.and_eq_true_iff.mp z1).1
                unfold gcdI
                rw [show a.natAbs = a.toNat by omega, show m.natAbs = m.toNat by omega]
              rw [← ez] at k0
              exact k0
            | _ => cases hy
          | _ => cases hx
end
end Vg

set_option Elab.async false
set_option linter.all false
set_option maxRecDepth 100000
set_option maxHeartbeats 2000000
namespace Vg
open PySem PySem.Spec PyProof.Rows L2
-- a ≠ b; a place of a heap; what is kept
local macro_rules | `(tactic| walk_at "nq") => `(tactic| with_reducible first
  | assumption
  | (apply Ne.symm; assumption))
local macro_rules | `(tactic| walk_at "hp") => `(tactic| with_reducible first
  | assumption
  | exact upd_same
  | (refine Eq.trans (upd_ne ?_) ?_; (with_reducible walk_at "nq"); (with_reducible walk_at "hp")))
local macro_rules | `(tactic| walk_at "sm") => `(tactic| with_reducible first
  | assumption
  | exact Same.refl _
  | exact But.refl _ _
  | (refine sm_nw ?_ ?_; rotate_left; (with_reducible assumption); walk_at "sm")
  | (refine But.nw ?_ ?_; rotate_left; (with_reducible assumption); walk_at "sm")
  | (refine sm_own ?_ ?_; rotate_left; (with_reducible assumption); walk_at "sm")
  | (refine But.own ?_ ?_; rotate_left; (with_reducible assumption); walk_at "sm")
  | (refine But.wr ?_; walk_at "sm"))

/-- an int from 0 to m - 1 -/
def OkC (m : Int) (z : V) : Prop := ∃ n : Int, z = .int n ∧ 0 ≤ n ∧ n < m
theorem okc_no {m : Int} {x y : V} (h : ¬ OkC m x ∨ ¬ OkC m y) : mapXY m x y = false := by
  cases x with
  | int a =>
    cases y with
    | int b =>
      show ((decide (0 ≤ a) && decide (a ≤ m - 1)) && ((decide (0 ≤ b) && decide (b ≤ m - 1)) && decide (gcdI a m = 1))) = false
      by_cases c : 0 ≤ a ∧ a ≤ m - 1
      · by_cases d : 0 ≤ b ∧ b ≤ m - 1
        · rcases h with h | h
          · exact absurd ⟨a, rfl, c.1, by omega⟩ h
          · exact absurd ⟨b, rfl, d.1, by omega⟩ h
        · have e : (decide (0 ≤ b) && decide (b ≤ m - 1)) = false := by rw [← Bool.decide_and]; exact decide_eq_false d
          rw [e, Bool.false_and, Bool.and_false]
      · have e : (decide (0 ≤ a) && decide (a ≤ m - 1)) = false := by rw [← Bool.decide_and]; exact decide_eq_false c
        rw [e, Bool.false_and]
    | _ => rfl
  | _ => rfl
theorem okc_yes {m a b : Int} (ha : 0 ≤ a ∧ a < m) (hb : 0 ≤ b ∧ b < m) : mapXY m (.int a) (.int b) = decide (gcdI a m = 1) := by
  show ((decide (0 ≤ a) && decide (a ≤ m - 1)) && ((decide (0 ≤ b) && decide (b ≤ m - 1)) && decide (gcdI a m = 1))) = _
  rw [decide_eq_true ha.1, decide_eq_true (show a ≤ m - 1 by omega), decide_eq_true hb.1, decide_eq_true (show b ≤ m - 1 by omega)]
  rfl
section
variable {P : Program} {w : World} {K : PySem.W.Frag} {mg : Str → Option Value} {base : Heap}
theorem c_lismap (D : DefAt K mg "_law_is_map" s__law_is_map) (T : Txt K mg)
    (c__law_gcd : Cal P w K mg base 1 "_law_gcd" ["one", "other"] sp_lgcd) :
    Cal P w K mg base 2 "_law_is_map" ["m", "value"] (sp_ismap K) := by
  refine cal_mk D sc__law_is_map (fun _ _ _ _ _ _ _ us hl => match us, hl with | [_, _], _ => rfl)
    (fun vs H Q E h => ?_) (fun f cdv A outer s H vs Q hgu hr h => ?_)
  · obtain ⟨m, v, b, rfl, _⟩ := h; rfl
  · obtain ⟨m, v, b, rfl, hm2, hm9, hv, k⟩ := h
    refine ⟨_,
      (pss_cons (ps_if (PW.pt (pw_or (pt_not (pt_val (pe_callB call_isi (by rfl) T.f_isinstance (by decide +kernel) (pa_cons (pv 1) (pa_cons (pe_ty (n := "tuple") (by rfl) T.f_tuple (by decide +kernel)) pa_nil))))) (pw_or1 (pt_cmpR op_ne (pe_callB call_len_seq (by rfl) T.f_len (by decide +kernel) (pa_cons (pv 1) pa_nil)) pe_int (nomark _))))) (pss_one (ps_ret pe_bl)) pss_nil)
      (pss_cons (ps_for PassesOwn.never rfl (pi_tup (pv 1)) (pg_name (i := 2) sc__law_is_map.nd rfl (Or.inl rfl))
        (pss_one (ps_if (PW.pt (pw_or (pt_not (pt_val (pe_callB call_isi (by rfl) T.f_isinstance (by decide +kernel) (pa_cons (pv 2) (pa_cons (pe_ty (n := "int") (by rfl) T.f_int (by decide +kernel)) pa_nil))))) (pw_or (pt_val (pe_callB call_isi (by rfl) T.f_isinstance (by decide +kernel) (pa_cons (pv 2) (pa_cons (pe_ty (n := "bool") (by rfl) T.f_bool (by decide +kernel)) pa_nil)))) (pw_or (pt_cmpR op_lt (pv 2) pe_int (nomark _)) (pw_or1 (pt_cmpR op_ge (pv 2) (pv 0) (nomark _))))))) (pss_one (ps_ret pe_bl)) pss_nil)))
      (pss_one (ps_ret (pe_cmpR op_eq (pe_cal c__law_gcd hgu (hr.mono (by decide)) (pa_cons (pe_ix ix_tup (pv 1) pe_int (fun _ _ => rfl)) (pa_cons (pv 0) pa_nil))) pe_int (nomark _))))))
      , ?_⟩
    cases hv with
    | no ty kt =>
      refine ⟨_, rfl, v, _, _, _, false, rfl, .ty "tuple", ty, kt, _, rfl, ?_⟩
      exact iteT (iteT (k H (Same.refl _)))
    | len h n =>
      refine ⟨_, rfl, _, _, _, _, true, rfl, .ty "tuple", .base (.tup h), kit_ty (by decide +kernel), _, rfl, ?_⟩
      refine iteF ⟨_, rfl, _, _, rfl, .inr (SqT.of h), rfl, _, rfl, ?_⟩
      rw [dp1, decide_eq_false (by omega)]
      exact iteT (k H (Same.refl _))
    | two h kx ky =>
      rename_i a x y
      refine ⟨_, rfl, _, _, _, _, true, rfl, .ty "tuple", .base (.tup h), kit_ty (by decide +kernel), _, rfl, ?_⟩
      refine iteF ⟨_, rfl, _, _, rfl, .inr (SqT.of h), rfl, _, rfl, ?_⟩
      rw [dp1, decide_eq_true (show (([x, y].length : Nat) : Int) = 2 from rfl)]
      refine iteF ⟨_, rfl, a, rfl, ⟨_, SqT.of h⟩, for_tup (K := K) (a := a) (xs := [x, y])
        (fun i σ' H' => ∃ (o : Option V), σ' = [some (.int m), some (.ref a), o] ∧ H' = H ∧ (1 ≤ i → OkC m x) ∧ (2 ≤ i → OkC m y)) ?_ ?_ ?_ ?_⟩
      · exact ⟨none, rfl, rfl, fun z => by omega, fun z => by omega⟩
      · rintro i σ' H' _ ⟨o, rfl, rfl, _⟩
        exact SqT.of h
      · rintro i z σ' H' hi ⟨o, rfl, rfl, h1, h2⟩
        -- what one turn finds
        have kz : Kd K H' z := by
          match i, hi with
          | 0, hi => cases hi; exact kx
          | 1, hi => cases hi; exact ky
        have no : ¬ OkC m z → Q (.bl false) H' := fun c => by
          have k0 := k H' (Same.refl _)
          have e : mapXY m x y = false := by
            match i, hi with
            | 0, hi => cases hi; exact okc_no (.inl c)
            | 1, hi => cases hi; exact okc_no (.inr c)
          rw [e] at k0
          exact k0
        have yes : OkC m z → (1 ≤ i + 1 → OkC m x) ∧ (2 ≤ i + 1 → OkC m y) := fun c => by
          match i, hi with
          | 0, hi => cases hi; exact ⟨fun _ => c, fun z => by omega⟩
          | 1, hi => cases hi; exact ⟨fun _ => h1 (by omega), fun _ => c⟩
        obtain ⟨t, bi, bb, ty, ki, kb, e⟩ := kz
        refine ⟨_, rfl, z, _, t, _, bi, rfl, .ty "int", ty, ki, _, rfl, ?_⟩
        have nint : isI z = false → ¬ OkC m z := fun f ⟨n, e', _⟩ => by rw [e'] at f; cases f
        cases bi with
        | false => exact iteT (iteT (no (nint e.symm)))
        | true =>
          refine iteF ⟨_, rfl, z, _, t, _, bb, rfl, .ty "bool", ty, kb, _, rfl, ?_⟩
          cases bb with
          | true => exact iteT (iteT (no (nint e.symm)))
          | false =>
            obtain ⟨n, rfl⟩ : ∃ n, z = .int n := by
              cases z with
              | int n => exact ⟨n, rfl⟩
              | _ => cases e
            refine iteF ⟨_, rfl, _, _, rfl, rfl, _, rfl, ?_⟩
            by_cases c : n < 0
            · rw [decide_eq_true c]
              exact iteT (iteT (no fun ⟨n', e', q1, q2⟩ => by cases e'; omega))
            · rw [decide_eq_false c]
              refine iteF ⟨_, rfl, _, rfl, _, _, rfl, rfl, _, rfl, ?_⟩
              by_cases c2 : m ≤ n
              · rw [decide_eq_true c2]
                exact iteT (no fun ⟨n', e', q1, q2⟩ => by cases e'; omega)
              · rw [decide_eq_false c2]
                refine iteF ⟨_, rfl, rfl, yes ⟨n, rfl, by omega, by omega⟩⟩
      · rintro σ' H' ⟨o, rfl, rfl, h1, h2⟩
        obtain ⟨a1, rfl, a2, a3⟩ := h1 (by show 1 ≤ 2; decide)
        obtain ⟨b1, rfl, b2, b3⟩ := h2 (by show 2 ≤ 2; decide)
        have k0 := k H' (Same.refl _)
        rw [okc_yes ⟨a2, a3⟩ ⟨b2, b3⟩, ← dp1] at k0
        refine ⟨_, rfl, a, _, _, _, rfl, rfl, SqT.of h, rfl, _, rfl, _, _, rfl, a2, by omega, ?_⟩
        exact ⟨rfl, k0⟩
end
end Vg

set_option Elab.async false
set_option linter.all false
set_option maxRecDepth 100000
set_option maxHeartbeats 4000000
namespace Vg
open PySem PySem.Spec PyProof.Rows L2
theorem gr_s {H H1 : Hp} {q : Addr} {o : HO} (e : upd H q o = H1) (h : H q = none) : Same H H1 := by rw [← e]; exact sm_new h
theorem gr_a {H H1 : Hp} {q : Addr} {o : HO} (e : upd H q o = H1) : H1 q = some o := by rw [← e]; exact upd_same
section
variable {K : PySem.W.Frag} {H : Hp} {m : Int} {a : Addr}
/-- a value that may stand in a tuple: not deep, not large -/
def Itm (K : PySem.W.Frag) (H : Hp) (v : V) : Prop := Kd K H v ∧ ∃ d, It K H v d 4 1000
theorem itm_int {i : Int} (h : i.natAbs < 1000000000000) : Itm K H (.int i) := ⟨kd_int i, _, (it_int h).up (by decide) (by decide)⟩
theorem itm_bl (b : Bool) : Itm K H (.bl b) := ⟨kd_bl b, _, (it_bl b).up (by decide) (by decide)⟩
theorem itm_non : Itm K H .non := ⟨kd_non, _, it_non.up (by decide) (by decide)⟩
theorem itm_str {x : Str} (h : (x.cps.toList.all fun c => decide (c < 16 ^ 8)) = true) (hk : x.cps.size ≤ 100) : Itm K H (.str x) := ⟨kd_str x, _, (it_str h hk).up (by decide) (by decide)⟩
theorem itm_tup2 {i j : Int} (h : H a = some (.tup [.int i, .int j])) (hi : i.natAbs < 1000000000000) (hj : j.natAbs < 1000000000000) : Itm K H (.ref a) :=
  ⟨kd_tup h, _, (it_tup h (.cons (it_int hi) (.cons (it_int hj) .nil))).up (by decide) (by decide)⟩
theorem itm_lst1 {i : Int} (h : H a = some (.lst [.int i])) (hi : i.natAbs < 1000000000000) : Itm K H (.ref a) :=
  ⟨kd_lst h, _, (it_lst h (.cons (it_int hi) .nil)).up (by decide) (by decide)⟩
theorem vok_two {x y : V} (h : H a = some (.tup [x, y])) (ix : Itm K H x) (iy : Itm K H y) : Vok K H m (.ref a) := by
  obtain ⟨kx, d1, i1⟩ := ix
  obtain ⟨ky, d2, i2⟩ := iy
  exact ⟨⟨_, .two h kx ky⟩, _, .inl ⟨_, (it_tup h (.cons i1 (.cons i2 .nil))).rp (by decide) (by decide), rfl⟩⟩
theorem vok_tup {xs : List V} {ds : List PyData} {k : Nat} (h : H a = some (.tup xs)) (n : xs.length ≠ 2) (i : Its K H xs ds 0 k) (hk : k ≤ 1000000) : Vok K H m (.ref a) :=
  ⟨⟨_, .len h n⟩, _, .inl ⟨_, (it_tup h i).rp (by decide) (by omega), rfl⟩⟩
theorem vok_lst {xs : List V} {ds : List PyData} {k : Nat} (h : H a = some (.lst xs)) (i : Its K H xs ds 0 k) (hk : k ≤ 1000000) : Vok K H m (.ref a) :=
  ⟨⟨_, .no (.base (.lst h)) (kit_ty (by decide +kernel))⟩, _, .inl ⟨_, (it_lst h i).rp (by decide) (by omega), rfl⟩⟩
theorem vok_dict (h : H a = some (.dK [])) : Vok K H m (.ref a) :=
  ⟨⟨_, .no (.base (.dK h)) (kit_ty (by decide +kernel))⟩, _, .inr ⟨_, rfl, h, rfl⟩⟩
theorem vok_int {i : Int} (h : i.natAbs < 1000000000000) : Vok K H m (.int i) :=
  ⟨⟨_, .no (.base (.int i)) (kit_ty (by decide +kernel))⟩, _, .inl ⟨_, (it_int h).rp (by decide) (by decide), rfl⟩⟩
theorem vok_non : Vok K H m .non :=
  ⟨⟨_, .no (.base .non) (kit_ty (by decide +kernel))⟩, _, .inl ⟨_, it_non.rp (by decide) (by decide), rfl⟩⟩
theorem vok_str {x : Str} (h : (x.cps.toList.all fun c => decide (c < 16 ^ 8)) = true) (hk : x.cps.size ≤ 100) : Vok K H m (.str x) :=
  ⟨⟨_, .no (.base (.str x)) (kit_ty (by decide +kernel))⟩, _, .inl ⟨_, (it_str h hk).rp (by decide) (by decide), rfl⟩⟩
end
end Vg

set_option Elab.async false
set_option linter.all false
set_option maxRecDepth 100000
set_option maxHeartbeats 4000000
namespace Vg
open PySem PySem.Spec PyProof.Rows L2
-- a ≠ b; a place of a heap; what is kept
local macro_rules | `(tactic| walk_at "nq") => `(tactic| with_reducible first
  | assumption
  | (apply Ne.symm; assumption))
local macro_rules | `(tactic| walk_at "hp") => `(tactic| with_reducible first
  | assumption
  | exact upd_same
  | (refine Eq.trans (upd_ne ?_) ?_; (with_reducible walk_at "nq"); (with_reducible walk_at "hp")))
local macro_rules | `(tactic| walk_at "sm") => `(tactic| with_reducible first
  | assumption
  | exact Same.refl _
  | exact But.refl _ _
  | (refine sm_nw ?_ ?_; rotate_left; (with_reducible assumption); walk_at "sm")
  | (refine But.nw ?_ ?_; rotate_left; (with_reducible assumption); walk_at "sm")
  | (refine sm_own ?_ ?_; rotate_left; (with_reducible assumption); walk_at "sm")
  | (refine But.own ?_ ?_; rotate_left; (with_reducible assumption); walk_at "sm")
  | (refine But.wr ?_; walk_at "sm"))

def sp_law (K : PySem.W.Frag) : Sp := fun vs H Q _ => ∃ (a : Addr) (ns : List Int), vs = [.ref a] ∧ SqL K H a (ns.map V.int) ∧ ns.length ≤ 63 ∧
  ∀ H', Q (.bl true) H'
section
variable {P : Program} {w : World} {K : PySem.W.Frag} {mg : Str → Option Value} {base : Heap}
abbrev lawN : List Str := ["script", "pen", "bout", "m", "f", "some", "k", "value", "kept"]
theorem body_law (T : Txt K mg)
    (c__law_pen : Cal P w K mg base 1 "_law_pen" ["script"] (sp_pen K))
    (c__law_draw : Cal P w K mg base 1 "_law_draw" ["pen", "many"] sp_draw)
    (c__law_pick : Cal P w K mg base 2 "_law_pick" ["pen", "some"] (sp_pick K))
    (c__law_modulus : Cal P w K mg base 3 "_law_modulus" ["pen", "most"] sp_modulus)
    (c__law_map : Cal P w K mg base 4 "_law_map" ["pen", "m"] sp_lmap)
    (c_is_map : Cal P w K mg base 3 "is_map" ["m", "value"] (sp_ismap K))
    (c__law_is_map : Cal P w K mg base 2 "_law_is_map" ["m", "value"] (sp_ismap K))
    (f : Addr) (cdv : Value) (A : Around) (outer : List Env) (s : Shared) (H : Hp) (vs : List V) (Q : VK)
    (hgu : (Cb P w K mg base lawN "law" (defScope s_law) f cdv A outer s H).A.guards = some [])
    (hr : Room 4 (Cb P w K mg base lawN "law" (defScope s_law) f cdv A outer s H).A)
    (h : sp_law K vs H Q E0) :
    ∃ t, PSs (Cb P w K mg base lawN "law" (defScope s_law) f cdv A outer s H).nox (defBody s_law) t ∧
        t { nx := fun _ H' => Q .non H', rt := Q } (start lawN vs) H := by
  obtain ⟨a, ns, rfl, hS, hl, k⟩ := h
  refine ⟨_,
    (pss_cons (ps_set (i := 1) sc_law.nd rfl (Or.inl rfl) (pe_cal c__law_pen hgu (hr.mono (by decide)) (pa_cons (pv 0) pa_nil)))
      (pss_cons (ps_for PassesOwn.never rfl (pi_range1 (by rfl) T.f_range (pa_cons (pe_op op_add pe_int (pe_callB (call_min2 rfl) (by rfl) T.f_min (by decide +kernel) (pa_cons pe_int (pa_cons (pe_callB call_len_seq (by rfl) T.f_len (by decide +kernel) (pa_cons (pv 0) pa_nil)) pa_nil)))) pa_nil)) (pg_name (i := 2) sc_law.nd rfl (Or.inl rfl))
        (pss_cons (ps_set (i := 3) sc_law.nd rfl (Or.inl rfl) (pe_cal c__law_modulus hgu (hr.mono (by decide)) (pa_cons (pv 1) (pa_cons (pe_cal c__law_pick hgu (hr.mono (by decide)) (pa_cons (pv 1) (pa_cons (pe_lst (pa_cons pe_int (pa_cons pe_int (pa_cons (pe_op op_pow pe_int pe_int) pa_nil)))) pa_nil))) pa_nil))))
        (pss_cons (ps_set (i := 4) sc_law.nd rfl (Or.inl rfl) (pe_cal c__law_map hgu (hr.mono (by decide)) (pa_cons (pv 1) (pa_cons (pv 3) pa_nil))))
        (pss_cons (ps_set (i := 5) sc_law.nd rfl (Or.inl rfl) (pe_lst (pa_cons (pv 4) (pa_cons (pe_rev2 (pv 4)) (pa_cons (pe_callTy call_list_of (by rfl) T.f_list (by decide +kernel) (pa_cons (pv 4) pa_nil)) (pa_cons (pe_op op_catT (pv 4) (pe_tup (pa_cons pe_int pa_nil))) (pa_cons (pe_slice sl_tup (pv 4) po_none (po_some pe_int)) (pa_cons (pe_tup (pa_cons (pe_ix ix_tup (pv 4) pe_int (fun _ _ => rfl)) (pa_cons (pv 3) pa_nil))) (pa_cons (pe_tup (pa_cons (pv 3) (pa_cons (pe_ix ix_tup (pv 4) pe_int (fun _ _ => rfl)) pa_nil))) (pa_cons (pe_tup (pa_cons (pe_op op_add (pe_ix ix_tup (pv 4) pe_int (fun _ _ => rfl)) (pv 3)) (pa_cons (pe_ix ix_tup (pv 4) pe_int (fun _ _ => rfl)) pa_nil))) (pa_cons (pe_tup (pa_cons (pe_ix ix_tup (pv 4) pe_int (fun _ _ => rfl)) (pa_cons (pe_un un_neg pe_int) pa_nil))) pa_nil)))))))))))
        (pss_cons (ps_set (i := 5) sc_law.nd rfl (Or.inl rfl) (pe_op op_cat (pv 5) (pe_lst (pa_cons (pe_tup (pa_cons (pe_op op_sub pe_int (pe_ix ix_tup (pv 4) pe_int (fun _ _ => rfl))) (pa_cons (pe_ix ix_tup (pv 4) pe_int (fun _ _ => rfl)) pa_nil))) (pa_cons (pe_tup (pa_cons pe_bl (pa_cons pe_int pa_nil))) (pa_cons (pe_tup (pa_cons pe_int (pa_cons pe_bl pa_nil))) (pa_cons (pe_tup (pa_cons pe_int (pa_cons pe_bl pa_nil))) (pa_cons (pe_tup (pa_cons pe_str (pa_cons pe_int pa_nil))) (pa_cons (pe_tup (pa_cons pe_int (pa_cons pe_non pa_nil))) (pa_cons (pe_tup pa_nil) (pa_cons (pe_lst pa_nil) (pa_cons pe_dnewK (pa_cons pe_non pa_nil)))))))))))))
        (pss_cons (ps_set (i := 5) sc_law.nd rfl (Or.inl rfl) (pe_op op_cat (pv 5) (pe_lst (pa_cons pe_int (pa_cons pe_str (pa_cons (pe_tup (pa_cons (pv 4) (pa_cons (pv 4) pa_nil))) (pa_cons (pe_tup (pa_cons (pe_lst (pa_cons pe_int pa_nil)) (pa_cons pe_int pa_nil))) pa_nil)))))))
        (pss_cons (ps_for PassesOwn.never rfl (pi_range1 (by rfl) T.f_range (pa_cons pe_int pa_nil)) (pg_name (i := 6) sc_law.nd rfl (Or.inl rfl))
          (pss_one (ps_expr (pe_bm PySem.F.plainAttrs_list PySem.F.slot_list_append PySem.F.type_list_append mt_append (pv 5) (pa_cons (pe_tup (pa_cons (pe_cal c__law_draw hgu (hr.mono (by decide)) (pa_cons (pv 1) (pa_cons (pv 3) pa_nil))) (pa_cons (pe_cal c__law_draw hgu (hr.mono (by decide)) (pa_cons (pv 1) (pa_cons (pv 3) pa_nil))) pa_nil))) pa_nil)))))
        (pss_one (ps_for PassesOwn.never rfl (pi_list (pv 5)) (pg_name (i := 7) sc_law.nd rfl (Or.inl rfl))
            (pss_cons (ps_set (i := 8) sc_law.nd rfl (Or.inl rfl) (pe_callB (call_reprS hgu hr.units) (by rfl) T.f_repr (by decide +kernel) (pa_cons (pv 7) pa_nil)))
            (pss_one (ps_if (PW.pt (pw_or (pt_cmpR op_ne (pe_callB (call_repr hgu hr.units) (by rfl) T.f_repr (by decide +kernel) (pa_cons (pe_cal c_is_map hgu (hr.mono (by decide)) (pa_cons (pv 3) (pa_cons (pv 7) pa_nil))) pa_nil)) (pe_callB (call_repr hgu hr.units) (by rfl) T.f_repr (by decide +kernel) (pa_cons (pe_cal c__law_is_map hgu (hr.mono (by decide)) (pa_cons (pv 3) (pa_cons (pv 7) pa_nil))) pa_nil)) (nomark _)) (pw_or1 (pt_cmpR op_ne (pe_callB (call_reprS hgu hr.units) (by rfl) T.f_repr (by decide +kernel) (pa_cons (pv 7) pa_nil)) (pv 8) (nomark _))))) (pss_one (ps_ret pe_bl)) pss_nil))))))))))))
      (pss_one (ps_ret pe_bl))))
    , ?_⟩
  refine ⟨_, rfl, a, ns, rfl, hS, hl, ?_⟩
  intro H1 p L s1 p0 L0 pn1
  have cpow : CPow 10 9 := ⟨by decide, by decide, by decide⟩
  refine ⟨_, rfl, a, _, rfl, .inl (s1.seq hS), 8, _, rfl, _, _, rfl, rfl, _, rfl, ?_, ?_, for_range (n := (4 + (if ((ns.map V.int).length : Int) < 8 then ((ns.map V.int).length : Int) else 8)).toNat)
    (fun i σ' H' => ∃ (o1 o2 o3 o4 o5 o6 o7 : Option V), σ' = [some (.ref a), some (.ref p), o1, o2, o3, o4, o5, o6, o7] ∧ PenAt H' p L (i * 60)) ?_ ?_ ?_⟩
  · rw [List.length_map]; split <;> omega
  · rw [List.length_map]; split <;> omega
  · exact ⟨none, none, none, none, none, none, none, rfl, pn1⟩
  · rintro i σ' H' hi ⟨o1, o2, o3, o4, o5, o6, o7, rfl, pn2⟩
    have hi2 : i < 12 := by
      rw [List.length_map] at hi
      split at hi <;> omega
    -- m
    refine ⟨_, rfl, _, rfl, _, _, rfl, rfl, cpow, (by show 3 ≤ sizeLine; decide), fun q hq => ?_⟩
    refine ⟨p, L, q, _, _, rfl, pn2.new hq, by omega, .inl (SqL.of upd_same), pn2.ne_n hq, by show 0 < 3; decide, by show 3 ≤ 1000000; decide, ?_⟩
    intro H2 v b2 pn3 hv
    obtain ⟨most, rfl, hm2', hm9'⟩ : ∃ most : Int, v = .int most ∧ 2 ≤ most ∧ most ≤ 1000000000 := by
      simp only [List.mem_cons, List.mem_nil_iff, or_false] at hv
      rcases hv with rfl | rfl | rfl
      · exact ⟨12, rfl, by decide, by decide⟩
      · exact ⟨5000, rfl, by decide, by decide⟩
      · exact ⟨_, rfl, by decide, by decide⟩
    refine ⟨p, L, _, most, rfl, pn3, by omega, hm2', hm9', ?_⟩
    intro H3 m b3 pn4 m2 mm _
    have m9 : m ≤ 1000000000 := by omega
    -- f
    refine ⟨_, rfl, _, rfl, p, L, _, m, rfl, pn4, by omega, m2, m9, ?_⟩
    intro H4 tf fa fb b4 pn5 huf fb0 fb1 _ gf
    have fa0 := huf.1
    have fa1 := huf.2.1
    clear b2 b3 b4 hv
    -- the first values
    refine ⟨_, rfl, ?_⟩
    refine ⟨_, rfl, tf, _, _, rfl, SqT.of gf, fun r1 hr1 => ?_⟩
    generalize e0 : upd _ r1 _ = Ha
    have sa := gr_s e0 hr1
    have ga := gr_a e0
    clear e0
    have Fa := sa _ _ gf
    refine ⟨_, rfl, tf, _, rfl, .inr (SqT.of Fa), fun r2 hr2 => ?_⟩
    generalize e0 : upd _ r2 _ = Hb
    have sb := gr_s e0 hr2
    have gb := gr_a e0
    clear e0
    have Fb := sb _ _ Fa
    refine ⟨_, rfl, (by show 1 ≤ sizeLine; decide), fun r3 hr3 => ?_⟩
    generalize e0 : upd _ r3 _ = Hc
    have sc := gr_s e0 hr3
    have gc := gr_a e0
    clear e0
    have Fc := sc _ _ Fb
    refine ⟨tf, r3, _, _, rfl, rfl, SqT.of Fc, SqT.of gc, List.cons_ne_nil _ _, (by show 2 + 1 ≤ sizeLine; decide), (fun e => by cases e), fun _ r4 hr4 => ?_⟩
    generalize e0 : upd _ r4 _ = Hd
    have sd := gr_s e0 hr4
    have gd := gr_a e0
    clear e0
    have Fd := sd _ _ Fc
    refine ⟨_, rfl, 1, rfl, tf, _, rfl, SqT.of Fd, (fun e => by cases e.2), fun r5 hr5 => ?_⟩
    generalize e0 : upd _ r5 _ = He
    have se := gr_s e0 hr5
    have ge := gr_a e0
    clear e0
    have Fe := se _ _ Fd
    refine ⟨_, rfl, tf, _, _, _, rfl, rfl, SqT.of Fe, rfl, _, rfl, (by show 2 ≤ sizeLine; decide), fun r6 hr6 => ?_⟩
    generalize e0 : upd _ r6 _ = Hf
    have sf := gr_s e0 hr6
    have gf6 := gr_a e0
    clear e0
    have Ff := sf _ _ Fe
    refine ⟨_, rfl, _, rfl, tf, _, _, _, rfl, rfl, SqT.of Ff, rfl, (by show 2 ≤ sizeLine; decide), fun r7 hr7 => ?_⟩
    generalize e0 : upd _ r7 _ = Hg
    have sg := gr_s e0 hr7
    have gg := gr_a e0
    clear e0
    have Fg := sg _ _ Ff
    refine ⟨_, rfl, tf, _, _, _, rfl, rfl, SqT.of Fg, rfl, _, rfl, _, _, rfl, rfl, _, rfl, tf, _, _, _, rfl, rfl, SqT.of Fg, rfl, (by show 2 ≤ sizeLine; decide), fun r8 hr8 => ?_⟩
    generalize e0 : upd _ r8 _ = Hh
    have sh := gr_s e0 hr8
    have gh := gr_a e0
    clear e0
    have Fh := sh _ _ Fg
    refine ⟨_, rfl, tf, _, _, _, rfl, rfl, SqT.of Fh, rfl, 1, rfl, (by show 2 ≤ sizeLine; decide), fun r9 hr9 => ?_⟩
    generalize e0 : upd _ r9 _ = Hi
    have si := gr_s e0 hr9
    have gi := gr_a e0
    clear e0
    have Fi := si _ _ Fh
    refine ⟨(by show 9 ≤ sizeLine; decide), fun u1 hu1 => ?_⟩
    generalize e0 : upd _ u1 _ = Hj
    have sj := gr_s e0 hu1
    have gj := gr_a e0
    clear e0
    have Fj := sj _ _ Fi
    -- the second values
    refine ⟨_, rfl, _, rfl, tf, _, _, _, rfl, rfl, SqT.of Fj, rfl, _, _, rfl, rfl, _, rfl, tf, _, _, _, rfl, rfl, SqT.of Fj, rfl, (by show 2 ≤ sizeLine; decide), fun t1 ht1 => ?_⟩
    generalize e0 : upd _ t1 _ = Ik
    have sk := gr_s e0 ht1
    have gk := gr_a e0
    clear e0
    have Fk := sk _ _ Fj
    refine ⟨(by show 2 ≤ sizeLine; decide), fun t2 ht2 => ?_⟩
    generalize e0 : upd _ t2 _ = Il
    have sl := gr_s e0 ht2
    have gl := gr_a e0
    clear e0
    refine ⟨(by show 2 ≤ sizeLine; decide), fun t3 ht3 => ?_⟩
    generalize e0 : upd _ t3 _ = Im
    have sm := gr_s e0 ht3
    have gm := gr_a e0
    clear e0
    refine ⟨(by show 2 ≤ sizeLine; decide), fun t4 ht4 => ?_⟩
    generalize e0 : upd _ t4 _ = In
    have sn := gr_s e0 ht4
    have gn := gr_a e0
    clear e0
    refine ⟨(by show 2 ≤ sizeLine; decide), fun t5 ht5 => ?_⟩
    generalize e0 : upd _ t5 _ = Io
    have so := gr_s e0 ht5
    have go := gr_a e0
    clear e0
    refine ⟨(by show 2 ≤ sizeLine; decide), fun t6 ht6 => ?_⟩
    generalize e0 : upd _ t6 _ = Ip
    have sp := gr_s e0 ht6
    have gp := gr_a e0
    clear e0
    refine ⟨Nat.zero_le _, fun t7 ht7 => ?_⟩
    generalize e0 : upd _ t7 _ = Iq
    have sq := gr_s e0 ht7
    have gq := gr_a e0
    clear e0
    refine ⟨Nat.zero_le _, fun t8 ht8 => ?_⟩
    generalize e0 : upd _ t8 _ = Ir
    have sr := gr_s e0 ht8
    have gr := gr_a e0
    clear e0
    intro t9 ht9
    generalize e0 : upd _ t9 _ = Is
    have ss := gr_s e0 ht9
    have gs := gr_a e0
    clear e0
    refine ⟨(by show 10 ≤ sizeLine; decide), fun u2 hu2 => ?_⟩
    generalize e0 : upd _ u2 _ = It
    have st := gr_s e0 hu2
    have gt := gr_a e0
    clear e0
    have qq : Same Hj It := sk.trans (sl.trans (sm.trans (sn.trans (so.trans (sp.trans (sq.trans (sr.trans (ss.trans st))))))))
    refine ⟨u1, u2, _, _, rfl, rfl, qq _ _ gj, gt, (by show 9 + 10 ≤ sizeLine; decide), fun u3 hu3 => ?_⟩
    generalize e0 : upd _ u3 _ = Ju
    have su := gr_s e0 hu3
    have gu := gr_a e0
    clear e0
    -- the third values
    have Fu := su _ _ (qq _ _ Fj)
    refine ⟨_, rfl, _, rfl, _, rfl, (by show 2 ≤ sizeLine; decide), fun w1 hw1 => ?_⟩
    generalize e0 : upd _ w1 _ = Jv
    have sv := gr_s e0 hw1
    have gv := gr_a e0
    clear e0
    refine ⟨(by show 1 ≤ sizeLine; decide), fun w2 hw2 => ?_⟩
    generalize e0 : upd _ w2 _ = Jw
    have sw := gr_s e0 hw2
    have gw := gr_a e0
    clear e0
    refine ⟨(by show 2 ≤ sizeLine; decide), fun w3 hw3 => ?_⟩
    generalize e0 : upd _ w3 _ = Jx
    have sx := gr_s e0 hw3
    have gx := gr_a e0
    clear e0
    refine ⟨(by show 4 ≤ sizeLine; decide), fun u4 hu4 => ?_⟩
    generalize e0 : upd _ u4 _ = Jy
    have sy := gr_s e0 hu4
    have gy := gr_a e0
    clear e0
    have qv : Same Ju Jy := sv.trans (sw.trans (sx.trans sy))
    refine ⟨u3, u4, _, _, rfl, rfl, qv _ _ gu, gy, (by show 19 + 4 ≤ sizeLine; decide), fun u5 hu5 => ?_⟩
    generalize e0 : upd _ u5 _ = Hs
    have sz := gr_s e0 hu5
    have gz := gr_a e0
    clear e0
    -- all of them at the last heap
    have Ty : Same Jy Hs := sz
    have Tx : Same Jx Hs := sy.trans Ty
    have Tw : Same Jw Hs := sx.trans Tx
    have Tv : Same Jv Hs := sw.trans Tw
    have Tu : Same Ju Hs := sv.trans Tv
    have Tt : Same It Hs := su.trans Tu
    have Ts : Same Is Hs := st.trans Tt
    have Tr : Same Ir Hs := ss.trans Ts
    have Tq : Same Iq Hs := sr.trans Tr
    have Tp : Same Ip Hs := sq.trans Tq
    have To : Same Io Hs := sp.trans Tp
    have Tn : Same In Hs := so.trans To
    have Tm : Same Im Hs := sn.trans Tn
    have Tl : Same Il Hs := sm.trans Tm
    have Tk : Same Ik Hs := sl.trans Tl
    have Tj : Same Hj Hs := sk.trans Tk
    have Ti : Same Hi Hs := sj.trans Tj
    have Th : Same Hh Hs := si.trans Ti
    have Tg : Same Hg Hs := sh.trans Th
    have Tf : Same Hf Hs := sg.trans Tg
    have Te : Same He Hs := sf.trans Tf
    have Td : Same Hd Hs := se.trans Te
    have Tc : Same Hc Hs := sd.trans Td
    have Tb : Same Hb Hs := sc.trans Tc
    have Ta : Same Ha Hs := sb.trans Tb
    have T4 : Same H4 Hs := sa.trans Ta
    have pnF : PenAt Hs p L (i * 60 + 27) := (pn5.same T4).mono (by omega)
    obtain ⟨pk, hpk⟩ : ∃ kvs, Hs p = some (.dK kvs) ∧ kvs ≠ [] := by
      obtain ⟨cs, t, r, h1, _⟩ := pnF
      exact ⟨_, h1, List.cons_ne_nil _ _⟩
    have mT : ∀ {b : Addr} {xs : List V}, Hs b = some (.tup xs) → mask p u5 Hs b = some (.tup xs) := fun {b xs} e =>
      (mask_at (ne_of e hpk.1 (fun z => by cases z)) (ne_of e gz (fun z => by cases z))).trans e
    have mL : ∀ {b : Addr} {j : Int} {xs : List V}, Hs b = some (.lst (.int j :: xs)) → mask p u5 Hs b = some (.lst (.int j :: xs)) := fun {b j xs} e =>
      (mask_at (ne_of e hpk.1 (fun z => by cases z)) (ne_of e gz (fun z => by cases z))).trans e
    have m0 : mask p u5 Hs t8 = some (.lst []) := (mask_at (ne_of (Tr _ _ gr) hpk.1 (fun z => by cases z)) (ne_of (Tr _ _ gr) gz (fun z => by cases z))).trans (Tr _ _ gr)
    have mD : mask p u5 Hs t9 = some (.dK []) := (mask_at (ne_of (Ts _ _ gs) hpk.1 (fun z => by cases z; exact hpk.2 rfl)) (ne_of (Ts _ _ gs) gz (fun z => by cases z))).trans (Ts _ _ gs)
    have ii : ∀ z : Int, z.natAbs < 1000000000000 → Itm K (mask p u5 Hs) (.int z) := fun z h => itm_int h
    have vF : Vok K (mask p u5 Hs) m (.ref tf) := vok_two (mT (T4 _ _ gf)) (ii _ (by omega)) (ii _ (by omega))
    have v1 : Vok K (mask p u5 Hs) m (.ref r1) := vok_two (mT (Ta _ _ ga)) (ii _ (by omega)) (ii _ (by omega))
    have v2 : Vok K (mask p u5 Hs) m (.ref r2) := vok_lst (mL (Tb _ _ gb)) (.cons (it_int (by omega)) (.cons (it_int (by omega)) .nil)) (by decide)
    have v4 : Vok K (mask p u5 Hs) m (.ref r4) := vok_tup (xs := [.int fa, .int fb, .int 0]) (mT (Td _ _ gd)) (by show 3 ≠ 2; decide) (.cons (it_int (by omega)) (.cons (it_int (by omega)) (.cons (it_int (by decide)) .nil))) (by decide)
    have v5 : Vok K (mask p u5 Hs) m (.ref r5) := vok_tup (xs := [.int fa]) (mT (Te _ _ ge)) (by show 1 ≠ 2; decide) (.cons (it_int (by omega)) .nil) (by decide)
    have v6 : Vok K (mask p u5 Hs) m (.ref r6) := vok_two (mT (Tf _ _ gf6)) (ii _ (by omega)) (ii _ (by omega))
    have v7 : Vok K (mask p u5 Hs) m (.ref r7) := vok_two (mT (Tg _ _ gg)) (ii _ (by omega)) (ii _ (by omega))
    have v8 : Vok K (mask p u5 Hs) m (.ref r8) := vok_two (mT (Th _ _ gh)) (ii _ (by omega)) (ii _ (by omega))
    have v9 : Vok K (mask p u5 Hs) m (.ref r9) := vok_two (mT (Ti _ _ gi)) (ii _ (by omega)) (ii _ (by decide))
    have x1 : Vok K (mask p u5 Hs) m (.ref t1) := vok_two (mT (Tk _ _ gk)) (ii _ (by omega)) (ii _ (by omega))
    have x2 : Vok K (mask p u5 Hs) m (.ref t2) := vok_two (mT (Tl _ _ gl)) (itm_bl _) (ii _ (by decide))
    have x3 : Vok K (mask p u5 Hs) m (.ref t3) := vok_two (mT (Tm _ _ gm)) (ii _ (by decide)) (itm_bl _)
    have x4 : Vok K (mask p u5 Hs) m (.ref t4) := vok_two (mT (Tn _ _ gn)) (ii _ (by decide)) (itm_bl _)
    have x5 : Vok K (mask p u5 Hs) m (.ref t5) := vok_two (mT (To _ _ go)) (itm_str (by decide +kernel) (by decide +kernel)) (ii _ (by decide))
    have x6 : Vok K (mask p u5 Hs) m (.ref t6) := vok_two (mT (Tp _ _ gp)) (ii _ (by decide)) itm_non
    have x7 : Vok K (mask p u5 Hs) m (.ref t7) := vok_tup (xs := []) (mT (Tq _ _ gq)) (by show 0 ≠ 2; decide) .nil (by decide)
    have x8 : Vok K (mask p u5 Hs) m (.ref t8) := vok_lst m0 .nil (by decide)
    have x9 : Vok K (mask p u5 Hs) m (.ref t9) := vok_dict mD
    have itF := itm_tup2 (K := K) (mT (T4 _ _ gf)) (by omega) (by omega)
    have y1 : Vok K (mask p u5 Hs) m (.ref w1) := vok_two (mT (Tv _ _ gv)) itF itF
    have y3 : Vok K (mask p u5 Hs) m (.ref w3) := vok_two (mT (Tx _ _ gx)) (itm_lst1 (mL (Tw _ _ gw)) (by decide)) (ii _ (by decide))
    have yi : Vok K (mask p u5 Hs) m (.int 1) := vok_int (by decide)
    have ys : Vok K (mask p u5 Hs) m (.str "1*x + 0") := vok_str (by decide +kernel) (by decide +kernel)
    have all0 : ∀ x ∈ ([V.ref tf, V.ref r1, V.ref r2, V.ref r4, V.ref r5, V.ref r6, V.ref r7, V.ref r8, V.ref r9] ++
            [V.ref t1, V.ref t2, V.ref t3, V.ref t4, V.ref t5, V.ref t6, V.ref t7, V.ref t8, V.ref t9, V.non] ++
          [V.int 1, V.str (Str.ofString "1*x + 0"), V.ref w1, V.ref w3]), Vok K (mask p u5 Hs) m x := by
      intro x hx
      simp only [List.mem_append, List.mem_cons, List.mem_nil_iff, or_false] at hx
      rcases hx with (((h | h | h | h | h | h | h | h | h)) | (h | h | h | h | h | h | h | h | h | h)) | (h | h | h | h) <;> subst h
      all_goals first
        | assumption
        | exact vok_non
    have len0 : ([V.ref tf, V.ref r1, V.ref r2, V.ref r4, V.ref r5, V.ref r6, V.ref r7, V.ref r8, V.ref r9] ++
            [V.ref t1, V.ref t2, V.ref t3, V.ref t4, V.ref t5, V.ref t6, V.ref t7, V.ref t8, V.ref t9, V.non] ++
          [V.int 1, V.str (Str.ofString "1*x + 0"), V.ref w1, V.ref w3]).length = 23 + 0 := rfl
    generalize [V.ref tf, V.ref r1, V.ref r2, V.ref r4, V.ref r5, V.ref r6, V.ref r7, V.ref r8, V.ref r9] ++
            [V.ref t1, V.ref t2, V.ref t3, V.ref t4, V.ref t5, V.ref t6, V.ref t7, V.ref t8, V.ref t9, V.non] ++
          [V.int 1, V.str (Str.ofString "1*x + 0"), V.ref w1, V.ref w3] = xs0 at gz all0 len0 ⊢
    have pnJ : PenAt Jy p L _ := pn5.same ((sa.trans (sb.trans (sc.trans (sd.trans (se.trans (sf.trans (sg.trans (sh.trans (si.trans sj))))))))).trans (qq.trans (su.trans qv)))
    have nup := pnJ.ne_n hu5
    have nuL := pnJ.ne_nL hu5
    clear T4 Ta Tb Tc Td Te Tf Tg Th Ti Tj Tk Tl Tm Tn To Tp Tq Tr Ts Tt Tu Tv Tw Tx Ty
    -- six that are drawn
    refine ⟨6, rfl, by decide, by decide, for_range (n := 6)
      (fun j σ' H' => ∃ (o6 o7 o8 : Option V) (xs : List V), σ' = [some (.ref a), some (.ref p), some (.int (0 + i)), some (.int m), some (.ref tf), some (.ref u5), o6, o7, o8] ∧
        PenAt H' p L (i * 60 + 27 + 2 * j) ∧ H' u5 = some (.lst xs) ∧ xs.length = 23 + j ∧ ∀ x ∈ xs, Vok K (mask p u5 H') m x) ?_ ?_ ?_⟩
    · exact ⟨_, _, _, xs0, rfl, pnF, gz, len0, all0⟩
    · rintro j σ' H' hj ⟨o6, o7, o8, xs, rfl, pnj, gu5, hlen, hall⟩
      have m64 : m.natAbs.log2 < 9000 := log_lt (by omega) (by omega)
      refine ⟨_, rfl, .inl ⟨rfl, _, SqL.of gu5⟩, _, rfl, _, rfl, p, L, _, m, rfl, pnj, by omega, by omega, m64, ?_⟩
      intro E1 d1 c1 e1 d10 d11
      refine ⟨_, rfl, _, rfl, p, L, _, m, rfl, e1, by omega, by omega, m64, ?_⟩
      intro E2 d2 c2 e2 d20 d21
      have gE := c2 _ _ nup (c1 _ _ nup gu5)
      refine ⟨(by show 2 ≤ sizeLine; decide), fun t ht => ?_⟩
      have nt : t ≠ u5 := (ne_of_none gE ht).symm
      have ntp : t ≠ p := e2.ne_n ht
      refine ⟨u5, xs, .ref t, rfl, rfl, (upd_ne nt.symm).trans gE, (by rw [hlen]; exact Nat.lt_of_lt_of_le (show 23 + j < 30 by omega) (by decide)), ?_⟩
      have mm : Same (mask p u5 H') (mask p u5 (upd (upd E2 t (.tup [.int d1, .int d2])) u5 (.lst (xs ++ [.ref t])))) := mask_mono fun b o h1 h2 e =>
        (upd_ne h2).trans (sm_new ht b o (c2 b o h1 (c1 b o h1 e)))
      refine ⟨_, _, _, xs ++ [.ref t], rfl, ?_, upd_same, ?_, ?_⟩
      · exact ((e2.new ht).wr nup nuL).mono (by omega)
      · rw [List.length_append, hlen]; rfl
      · intro x hx
        rcases List.mem_append.mp hx with hx | hx
        · exact vok_same mm (hall x hx)
        · obtain rfl := List.mem_singleton.mp hx
          refine vok_two (x := .int d1) (y := .int d2) ((mask_at ntp nt).trans ((upd_ne nt).trans upd_same)) (itm_int (by omega)) (itm_int (by omega))
    · rintro σ' H' ⟨o6, o7, o8, xs, rfl, pnj, gu5, hlen, hall⟩
      refine ⟨_, rfl, u5, rfl, ⟨_, SqL.of gu5⟩, for_list (K := K) (a := u5) (xs := xs)
        (fun j σ'' H'' => ∃ (o7 o8 : Option V), σ'' = [some (.ref a), some (.ref p), some (.int (0 + i)), some (.int m), some (.ref tf), some (.ref u5), o6, o7, o8] ∧ Same H' H'')
        ⟨_, _, rfl, Same.refl _⟩ (fun j σ'' H'' _ ⟨_, _, _, z⟩ => z.seq (SqL.of gu5)) ?_ ?_⟩
      · rintro j v σ'' H8 hj ⟨o7, o8, rfl, s8⟩
        have hv := vok_same (mask_same (p := p) (u := u5)) (hall v (List.mem_of_getElem? hj))
        obtain ⟨⟨b, hb⟩, x, hx⟩ := hv
        refine ⟨_, rfl, v, x, rfl, shw_same s8 hx, ?_⟩
        refine ⟨_, rfl, _, rfl, m, v, b, rfl, m2, m9, ismp_same s8 hb, fun H9 s9 => ?_⟩
        have r1 := rp_bool (K := K) (H := H9) b
        refine ⟨_, _, rfl, r1.dp, r1.sh, r1.de, r1.le, ?_⟩
        refine ⟨_, rfl, _, rfl, m, v, b, rfl, m2, m9, ismp_same (s8.trans s9) hb, fun H10 s10 => ?_⟩
        have r2 := rp_bool (K := K) (H := H10) b
        refine ⟨_, _, rfl, r2.dp, r2.sh, r2.de, r2.le, rfl, false, ne_str rfl, iteF ?_⟩
        have s10' := (s8.trans s9).trans s10
        refine ⟨_, rfl, v, x, rfl, shw_same s10' hx, _, rfl, rfl, false, ne_str rfl, iteF ?_⟩
        exact ⟨_, _, rfl, s10'⟩
      · rintro σ'' H8 ⟨o7, o8, rfl, s8⟩
        exact ⟨_, _, _, _, _, _, _, rfl, (pnj.same s8).mono (by omega)⟩
  · rintro σ' H' ⟨o1, o2, o3, o4, o5, o6, o7, rfl, pn2⟩
    exact k _
end
end Vg

set_option Elab.async false
set_option linter.all false
set_option maxRecDepth 100000
set_option maxHeartbeats 0
namespace Vg
open PySem PySem.Spec PyProof.Rows L2
def fn : List He.DefD := [dOf "is_whole" s_is_whole,
  dOf "is_between" s_is_between,
  dOf "is_map" s_is_map,
  dOf "_law_pen" s__law_pen,
  dOf "_law_draw" s__law_draw,
  dOf "_law_pick" s__law_pick,
  dOf "_law_shuffled" s__law_shuffled,
  dOf "_law_gcd" s__law_gcd,
  dOf "_law_modulus" s__law_modulus,
  dOf "_law_divisors" s__law_divisors,
  dOf "_law_unit" s__law_unit,
  dOf "_law_map" s__law_map,
  dOf "_law_is_map" s__law_is_map,
  dOf "law" s_law]
def fs : List (PySem.W.Frag → Bool) := [fun K => (He.Fa.glo "is_whole").ok K,
  fun K => (He.Fa.glo "is_between").ok K,
  fun K => (He.Fa.glo "is_map").ok K,
  fun K => (He.Fa.glo "_law_pen").ok K,
  fun K => (He.Fa.glo "_law_draw").ok K,
  fun K => (He.Fa.glo "_law_pick").ok K,
  fun K => (He.Fa.glo "_law_shuffled").ok K,
  fun K => (He.Fa.glo "_law_gcd").ok K,
  fun K => (He.Fa.glo "_law_modulus").ok K,
  fun K => (He.Fa.glo "_law_divisors").ok K,
  fun K => (He.Fa.glo "_law_unit").ok K,
  fun K => (He.Fa.glo "_law_map").ok K,
  fun K => (He.Fa.glo "_law_is_map").ok K,
  fun K => (He.Fa.glo "law").ok K,
  fun K => (He.Fa.free "abs").ok K,
  fun K => (He.Fa.free "bool").ok K,
  fun K => bltB K "gcd" "math.gcd",
  fun K => (He.Fa.free "int").ok K,
  fun K => (He.Fa.free "isinstance").ok K,
  fun K => (He.Fa.free "len").ok K,
  fun K => (He.Fa.free "list").ok K,
  fun K => (He.Fa.free "min").ok K,
  fun K => (He.Fa.free "range").ok K,
  fun K => (He.Fa.free "repr").ok K,
  fun K => (He.Fa.free "sorted").ok K,
  fun K => (He.Fa.free "tuple").ok K]
def loose : List PySem.Str := ["is_whole", "is_between", "is_map", "_law_pen", "_law_draw", "_law_pick", "_law_shuffled", "_law_gcd", "_law_modulus", "_law_divisors", "_law_unit", "_law_map", "_law_is_map"]
abbrev topV : List Nat := [0, 17]
abbrev Rw : PySem.W.OpenRow := PySem.W.OpenLaw.row PySem.Challenge.rw_affinewalk_k02_values_that_are_maps
abbrev hk : PySem.W.Hook := hookX 4 fs fn
def ob (s : PySem.W.SharedT) : He.AlD := seenG 4 fs fn (HandSHeadRun.getT s)
theorem ob_eq (s : PySem.W.SharedT) : ob s = hk.obs s.abs := seenG_eq (HandSHeadRun.getT_eq s)
theorem run (w : World) : HandSHeadRun.RunEqI Rw (PySem.W.view Rw.prog topV) hk ob 20000 loose w := by
  unfold HandSHeadRun.RunEqI
  kernel_rfl
theorem txt_of {K : PySem.W.Frag} {h : Heap} {mg : Str → Option Value} (X : K.In h) (G : h.Ns mainGlobals mg) (c : SaysX fs fn K) : Txt K mg where
  f_abs := He.free_ok X G (c.fact 14)
  f_bool := He.free_ok X G (c.fact 15)
  h_gcd := bltB_ok X G (c.fact 16)
  f_int := He.free_ok X G (c.fact 17)
  f_isinstance := He.free_ok X G (c.fact 18)
  f_len := He.free_ok X G (c.fact 19)
  f_list := He.free_ok X G (c.fact 20)
  f_min := He.free_ok X G (c.fact 21)
  f_range := He.free_ok X G (c.fact 22)
  f_repr := He.free_ok X G (c.fact 23)
  f_sorted := He.free_ok X G (c.fact 24)
  f_tuple := He.free_ok X G (c.fact 25)
structure Ds (K : PySem.W.Frag) (mg : Str → Option Value) : Prop where
  d_is_whole : DefAt K mg "is_whole" s_is_whole
  d_is_between : DefAt K mg "is_between" s_is_between
  d_is_map : DefAt K mg "is_map" s_is_map
  d__law_pen : DefAt K mg "_law_pen" s__law_pen
  d__law_draw : DefAt K mg "_law_draw" s__law_draw
  d__law_pick : DefAt K mg "_law_pick" s__law_pick
  d__law_shuffled : DefAt K mg "_law_shuffled" s__law_shuffled
  d__law_gcd : DefAt K mg "_law_gcd" s__law_gcd
  d__law_modulus : DefAt K mg "_law_modulus" s__law_modulus
  d__law_divisors : DefAt K mg "_law_divisors" s__law_divisors
  d__law_unit : DefAt K mg "_law_unit" s__law_unit
  d__law_map : DefAt K mg "_law_map" s__law_map
  d__law_is_map : DefAt K mg "_law_is_map" s__law_is_map
  d_law : DefAt K mg "law" s_law
theorem ds_of {K : PySem.W.Frag} {h : Heap} {mg : Str → Option Value} (X : K.In h) (G : h.Ns mainGlobals mg) (c : SaysX fs fn K) : Ds K mg where
  d_is_whole := defAt X G c 0 0
  d_is_between := defAt X G c 1 1
  d_is_map := defAt X G c 2 2
  d__law_pen := defAt X G c 3 3
  d__law_draw := defAt X G c 4 4
  d__law_pick := defAt X G c 5 5
  d__law_shuffled := defAt X G c 6 6
  d__law_gcd := defAt X G c 7 7
  d__law_modulus := defAt X G c 8 8
  d__law_divisors := defAt X G c 9 9
  d__law_unit := defAt X G c 10 10
  d__law_map := defAt X G c 11 11
  d__law_is_map := defAt X G c 12 12
  d_law := defAt X G c 13 13
abbrev lawAt : Nat := 17
abbrev topM : Nat := 20000
abbrev lawK : Nat := 5
theorem facts {P : Program} {w : World} {K : PySem.W.Frag} {h : Heap} {mg : Str → Option Value} {f : Addr} (X : K.In h) (G : h.Ns mainGlobals mg)
    (hfa : mg ("law" : Str) = some (.ref f)) (c : SaysX fs fn K) :
    ∃ fd : FuncData, (∀ (s : Shared) (v : Value), BindsTo s fd ⟨[v], []⟩ [("script", v)]) ∧
      ∀ base : Heap, K.In base → base.Ns mainGlobals mg → FnG P w K mg base lawK f fd ["script"] (sp_law K) := by
  have D := ds_of X G c
  have T := txt_of X G c
  obtain ⟨fd, F, hm⟩ := D.d_law
  have e := hfa.symm.trans hm
  cases e
  have b := FunD.bindsA (ps := ["script"]) F fun _ _ _ _ _ _ us hl => match us, hl with | [_], _ => rfl
  refine ⟨fd, fun s v => b s [v] rfl, fun base _ _ => ?_⟩
  have cD := c_draw (P := P) (w := w) (base := base) D.d__law_draw T
  have cP := c_pick (P := P) (w := w) (base := base) D.d__law_pick T cD
  have cS := c_shuffled (P := P) (w := w) (base := base) D.d__law_shuffled T cD
  have cM := c_modulus (P := P) (w := w) (base := base) D.d__law_modulus T cD cP cS
  have cV := c_divisors (P := P) (w := w) (base := base) D.d__law_divisors T
  have cU := c_unit D.d__law_unit T cD cP (c_lgcd D.d__law_gcd T) cV
  have cL := c_lmap D.d__law_map T cD cP cU cV
  have cB := c_between (P := P) (w := w) (base := base) D.d_is_between T (c_whole D.d_is_whole T)
  refine FnG.mk_of F sc_law (fun vs H Q E h => ?_) (fun cdv A outer s H vs Q hgu hr h => ?_)
  · obtain ⟨a, ns, rfl, _⟩ := h; rfl
  · exact body_law T (c_pen D.d__law_pen T) cD cP cM cL (c_ismap D.d_is_map T cB) (c_lismap D.d__law_is_map T (c_lgcd D.d__law_gcd T)) _ cdv A outer s H vs Q hgu hr h
end Vg
open PySem PySem.W PySem.Calls PyProof.Rows
theorem PySem.Challenge.cw_affinewalk_k02_values_that_are_maps_holds : PySem.Challenge.rw_affinewalk_k02_values_that_are_maps.Holds := by
  w_on; o_law
  refine HandSHeadRun.head_imp (r := OpenLaw.row PySem.Challenge.rw_affinewalk_k02_values_that_are_maps) (q := view (OpenLaw.row PySem.Challenge.rw_affinewalk_k02_values_that_are_maps).prog Vg.topV) (H := Vg.hk) (ob := Vg.ob) (M := Vg.topM) (loose := Vg.loose)
    (d := HandSHeadRun.topDef (OpenLaw.row PySem.Challenge.rw_affinewalk_k02_values_that_are_maps).prog Vg.lawAt) (kwd := []) Vg.ob_eq
    Vg.run (by kernel_rfl) (by kernel_rfl) (by kernel_rfl) (by rfl) (by first | assumption | decide +kernel) (by decide +kernel) ⟨rfl, rfl, rfl, rfl, rfl, by decide +kernel⟩ ?hw ?hc
  case hw => w_witness2
  case hc =>
    refine Vg.walkG (l := PySem.Challenge.rw_affinewalk_k02_values_that_are_maps) (n := 63) (k := Vg.lawK) (x := "script") rfl (by decide) (by kernel_rfl) ⟨rfl, by decide, by decide⟩ ?F
    intro w mg fa h Y G hmg0
    obtain ⟨K, KX, c⟩ := Y
    have hmg : mg ("law" : PySem.Str) = some (.ref fa) := by
      have e : (HandSHeadRun.topDef (OpenLaw.row PySem.Challenge.rw_affinewalk_k02_values_that_are_maps).prog Vg.lawAt).name = ("law" : PySem.Str) := by kernel_rfl
      rw [← e]
      exact hmg0
    obtain ⟨fd, hb, hF⟩ := Vg.facts (P := (PySem.Challenge.rw_affinewalk_k02_values_that_are_maps).prog) (w := w) KX G hmg c
    exact ⟨K, fd, Vg.sp_law K, KX, hb, fun H a ns hl _ _ hS => ⟨a, ns, rfl, hS, hl, fun _ => rfl⟩, hF⟩
#print axioms PySem.Challenge.cw_affinewalk_k02_values_that_are_maps_holds

